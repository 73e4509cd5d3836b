import PyProof.Rows.All
import Wide.All
import OpenK.AllK
import Wide.FinOn
import Open.SpecLaws
import KE.OsGo
import HandS.ForMost
import HandS.ForSpec
import HandS.More
import HandS.CallLocal
import HandS.Walk
import PySem.Challenge.RW_partednodes_s01_answers
set_option Elab.async false
set_option linter.all false
section
/-! The specification's states: what stays true of them, and how much they hold. Plain Lean. -/
namespace PN
open Ha05

abbrev Ok (s : St) (p : Nat) : Prop := 1 ≤ p ∧ p ≤ s.procs.length

theorem isThere_iff {s : St} {p : Nat} : isThere s p = true ↔ Ok s p := by simp [isThere, Ok]
theorem isThere_no {s : St} {p : Nat} : isThere s p = false ↔ ¬ Ok s p := by
  rw [← isThere_iff]; simp

theorem proc_some {s : St} {p : Nat} (h : Ok s p) : s.procs[p - 1]? = some (proc s p) := by
  have h1 : p - 1 < s.procs.length := by have := h.1; have := h.2; omega
  unfold proc
  simp [List.getD, h1]
theorem proc_mem {s : St} {p : Nat} (h : Ok s p) : proc s p ∈ s.procs := List.mem_of_getElem? (proc_some h)
theorem set_len {s : St} {p : Nat} {x : Proc} : (setProc s p x).procs.length = s.procs.length := by simp [setProc]
theorem ok_set {s : St} {p q : Nat} {x : Proc} : Ok (setProc s p x) q ↔ Ok s q := by simp [Ok, set_len]
theorem proc_same {s : St} {p : Nat} {x : Proc} (h : Ok s p) : proc (setProc s p x) p = x := by
  have h1 : p - 1 < s.procs.length := by have := h.1; have := h.2; omega
  unfold proc setProc
  simp [List.getD, h1]
theorem proc_ne {s : St} {p q : Nat} {x : Proc} (hp : 1 ≤ p) (hq : 1 ≤ q) (h : q ≠ p) : proc (setProc s p x) q = proc s q := by
  have h1 : p - 1 ≠ q - 1 := by omega
  unfold proc setProc
  simp [List.getD, List.getElem?_set, h1]
theorem set_proc {s : St} {p : Nat} (h : Ok s p) : setProc s p (proc s p) = s := by
  have e : s.procs.set (p - 1) (proc s p) = s.procs := by
    apply List.ext_getElem?
    intro i
    rw [List.getElem?_set]
    split
    · rename_i h1
      subst h1
      split
      · exact (proc_some h).symm
      · rename_i h2
        have := h.1; have := h.2; omega
    · rfl
  show { s with procs := s.procs.set (p - 1) (proc s p) } = s
  rw [e]
theorem set_set {s : St} {p : Nat} {x y : Proc} : setProc (setProc s p x) p y = setProc s p y := by simp [setProc]
/-- nodes stand where the new process stands where the old one stood -/
theorem node_set {s : St} {p q : Nat} {x : Proc} (h : x.node = (proc s p).node) : nodeOf (setProc s p x) q = nodeOf s q := by
  unfold nodeOf proc setProc at *
  simp only [List.getD, List.getElem?_set] at *
  by_cases e : p - 1 = q - 1
  · by_cases l : p - 1 < s.procs.length
    · simp only [e, if_true] at *
      rw [if_pos l]
      exact h
    · have l' : ¬ q - 1 < s.procs.length := by omega
      simp [e, l']
  · simp [e]

/-! ### what is sent -/
def sent (s : St) (p q : Nat) (x : Sig) : List Fly :=
  if nodeOf s p = nodeOf s q then [⟨p, q, x, 0⟩]
  else if conn s (nodeOf s p) (nodeOf s q) = 0 then noConn p q x
  else if (wire s (nodeOf s p) (nodeOf s q)).broken = true then []
  else [⟨p, q, x, conn s (nodeOf s p) (nodeOf s q)⟩]
def puts (s : St) (l : List Fly) : St := { s with air := s.air ++ l }
theorem send_eq (s : St) (p q : Nat) (x : Sig) : send s p q x = puts s (sent s p q x) := by
  unfold send sent puts
  dsimp only
  split
  · rfl
  · split
    · rfl
    · split
      · simp
      · rfl
/-- all that an arrival leaves as it is -/
structure Keep (s t : St) : Prop where
  len : t.procs.length = s.procs.length
  node : ∀ p, nodeOf t p = nodeOf s p
  last : t.last = s.last
  wires : t.wires = s.wires
  conns : t.conns = s.conns
theorem Keep.refl (s : St) : Keep s s := ⟨rfl, fun _ => rfl, rfl, rfl, rfl⟩
theorem Keep.trans {s t u : St} (a : Keep s t) (b : Keep t u) : Keep s u :=
  ⟨b.len.trans a.len, fun p => (b.node p).trans (a.node p), b.last.trans a.last, b.wires.trans a.wires, b.conns.trans a.conns⟩
theorem Keep.ok {s t : St} (k : Keep s t) {p : Nat} : Ok t p ↔ Ok s p := by unfold Ok; rw [k.len]
theorem keep_puts {s : St} {l : List Fly} : Keep s (puts s l) := ⟨rfl, fun _ => rfl, rfl, rfl, rfl⟩
theorem keep_send {s : St} {p q : Nat} {x : Sig} : Keep s (send s p q x) := by rw [send_eq]; exact keep_puts
theorem keep_set {s : St} {p : Nat} {x : Proc} (h : x.node = (proc s p).node) : Keep s (setProc s p x) := ⟨set_len, fun _ => node_set h, rfl, rfl, rfl⟩
theorem keep_air {s : St} {l : List Fly} : Keep s { s with air := l } := ⟨rfl, fun _ => rfl, rfl, rfl, rfl⟩
theorem wire_congr {s t : St} (h : t.wires = s.wires) (a b : Nat) : wire t a b = wire s a b := by unfold wire; rw [h]
theorem conn_congr {s t : St} (h : t.wires = s.wires) (a b : Nat) : conn t a b = conn s a b := by unfold conn; rw [wire_congr h]
theorem sent_congr {s t : St} (hn : ∀ p, nodeOf t p = nodeOf s p) (hw : t.wires = s.wires) (p q : Nat) (x : Sig) : sent t p q x = sent s p q x := by
  unfold sent
  rw [hn p, hn q, conn_congr hw, wire_congr hw]
theorem Keep.sent {s t : St} (k : Keep s t) (p q : Nat) (x : Sig) : PN.sent t p q x = PN.sent s p q x := sent_congr k.node k.wires p q x
theorem puts_nil (s : St) : puts s [] = s := by simp [puts]
theorem puts_puts (s : St) (l m : List Fly) : puts (puts s l) m = puts s (l ++ m) := by simp [puts]
theorem sends_eq (p : Nat) : ∀ (l : List (Nat × Sig)) (s : St), l.foldl (fun t y => send t p y.1 y.2) s = puts s (l.flatMap fun y => sent s p y.1 y.2)
  | [], s => by simp [puts_nil]
  | y :: r, s => by
    rw [List.foldl_cons, sends_eq p r, send_eq, puts_puts, List.flatMap_cons]
    congr 2
theorem puts_set (s : St) (l : List Fly) (p : Nat) (x : Proc) : puts (setProc s p x) l = setProc (puts s l) p x := rfl
theorem proc_puts (s : St) (l : List Fly) (p : Nat) : proc (puts s l) p = proc s p := rfl

/-! ### one that ends -/
def deadOf (x : Proc) (why : Nat) : Proc := { x with lives := false, why := why, links := [], watches := [], watched := [] }
def sigsL (x : Proc) (why : Nat) : List (Nat × Sig) := (x.links.filter fun y => y.cutting == 0).map fun y => (y.to, Sig.ended why)
def sigsD (x : Proc) (why : Nat) : List (Nat × Sig) := x.watched.map fun y => (y.2, Sig.gone y.1 why)
def sigsW (x : Proc) : List (Nat × Sig) := x.watches.map fun y => (y.2, Sig.unwatch y.1)
def sigs (x : Proc) (why : Nat) : List (Nat × Sig) := sigsL x why ++ sigsD x why ++ sigsW x
def outs (s : St) (p : Nat) (l : List (Nat × Sig)) : List Fly := l.flatMap fun y => sent s p y.1 y.2
theorem outs_append (s : St) (p : Nat) (l m : List (Nat × Sig)) : outs s p (l ++ m) = outs s p l ++ outs s p m := by simp [outs]
theorem dies_eq (s : St) (p why : Nat) : dies s p why = setProc (puts s (outs s p (sigs (proc s p) why))) p (deadOf (proc s p) why) := by
  show (sigs (proc s p) why).foldl (fun t y => send t p y.1 y.2) (setProc s p (deadOf (proc s p) why)) = _
  rw [sends_eq, ← puts_set]
  congr 1
  unfold outs
  congr 1
  funext y
  exact sent_congr (fun q => node_set (x := deadOf (proc s p) why) rfl) rfl p y.1 y.2
theorem keep_dies (s : St) (p why : Nat) : Keep s (dies s p why) := by
  rw [dies_eq]
  exact keep_puts.trans (keep_set rfl)
theorem keep_hit (s : St) (p : Nat) (n : Note) : Keep s (hit s p n) := by
  unfold hit
  split
  · exact keep_set rfl
  · split
    · exact Keep.refl s
    · exact keep_dies s p n.n
theorem keep_dead (s : St) (p q : Nat) (x : Sig) : Keep s (deadGets s p q x) := by
  cases x <;> simp only [deadGets] <;> first | exact Keep.refl s | exact keep_send
theorem keep_gets (s : St) (p q : Nat) (x : Sig) : Keep s (gets s p q x) := by
  cases x with
  | word n => exact keep_set rfl
  | link =>
    simp only [gets]
    split
    · exact Keep.refl s
    · exact keep_set rfl
  | cut k =>
    simp only [gets]
    refine Keep.trans ?_ keep_send
    split
    · split
      · exact keep_set rfl
      · exact Keep.refl s
    · exact Keep.refl s
  | heard k =>
    simp only [gets]
    split
    · split
      · exact keep_set rfl
      · exact Keep.refl s
    · exact Keep.refl s
  | ended why =>
    simp only [gets]
    split
    · exact Keep.refl s
    · have k1 : Keep s (setProc s q (without (proc s q) p)) := keep_set rfl
      split
      · exact k1.trans (keep_hit _ _ _)
      · exact k1
  | halt_ why =>
    simp only [gets]
    split
    · exact keep_dies s q _
    · exact keep_hit s q _
  | watch k => exact keep_set rfl
  | unwatch k => exact keep_set rfl
  | gone k why =>
    simp only [gets]
    split
    · exact keep_set rfl
    · exact Keep.refl s
theorem keep_arrives (s : St) (p q : Nat) (x : Sig) : Keep s (arrives s p q x) := by
  unfold arrives
  split
  · exact keep_gets s p q x
  · exact keep_dead s p q x
theorem keep_comes (s : St) (y : Fly) : Keep s (comes s y) := by
  unfold comes
  split
  · exact keep_arrives s _ _ _
  · exact Keep.refl s
theorem keep_fold {α : Type} (f : St → α → St) (h : ∀ s a, Keep s (f s a)) : ∀ (l : List α) (s : St), Keep s (l.foldl f s)
  | [], s => Keep.refl s
  | a :: r, s => (h s a).trans (keep_fold f h r (f s a))
theorem keep_cutOff (b : Nat) (s : St) (p : Nat) : Keep s (cutOff b s p) := by
  unfold cutOff
  split
  · exact Keep.refl s
  · dsimp only
    refine Keep.trans (keep_set ?_) (keep_fold _ ?_ _ _)
    · rfl
    · intro u y
      split
      · exact keep_hit u p _
      · exact Keep.refl u

/-! ### links in order -/
theorem insertLink_mem {y : Link} : ∀ {l : List Link} {z : Link}, z ∈ insertLink y l → z = y ∨ z ∈ l
  | [], z, h => by simp [insertLink] at h; exact .inl h
  | a :: r, z, h => by
    unfold insertLink at h
    split at h
    · rcases List.mem_cons.mp h with h | h
      · exact .inl h
      · exact .inr h
    · split at h
      · rcases List.mem_cons.mp h with h | h
        · exact .inl h
        · exact .inr (List.mem_cons_of_mem _ h)
      · rcases List.mem_cons.mp h with h | h
        · exact .inr (h ▸ List.mem_cons_self)
        · rcases insertLink_mem h with h | h
          · exact .inl h
          · exact .inr (List.mem_cons_of_mem _ h)
theorem insertLink_sorted {y : Link} : ∀ {l : List Link}, l.Pairwise (fun a b => a.to < b.to) → (insertLink y l).Pairwise (fun a b => a.to < b.to)
  | [], _ => by simp [insertLink]
  | a :: r, h => by
    obtain ⟨h1, h2⟩ := List.pairwise_cons.mp h
    unfold insertLink
    split
    · rename_i l1
      refine List.pairwise_cons.mpr ⟨fun z hz => ?_, h⟩
      rcases List.mem_cons.mp hz with hz | hz
      · rw [hz]; exact l1
      · exact Nat.lt_trans l1 (h1 z hz)
    · split
      · rename_i e
        refine List.pairwise_cons.mpr ⟨fun z hz => ?_, h2⟩
        rw [e]; exact h1 z hz
      · rename_i n1 n2
        refine List.pairwise_cons.mpr ⟨fun z hz => ?_, insertLink_sorted h2⟩
        rcases insertLink_mem hz with hz | hz
        · rw [hz]; omega
        · exact h1 z hz
theorem insertLink_len {y : Link} : ∀ (l : List Link), (insertLink y l).length ≤ l.length + 1
  | [] => by simp [insertLink]
  | a :: r => by
    unfold insertLink
    split
    · simp
    · split
      · simp
      · have := insertLink_len (y := y) r
        simp only [List.length_cons]; omega

/-! ### what holds of a state -/
structure PWf (n last : Nat) (x : Proc) : Prop where
  node : 1 ≤ x.node ∧ x.node ≤ 3
  lsort : x.links.Pairwise (fun a b => a.to < b.to)
  lok : ∀ y ∈ x.links, 1 ≤ y.to ∧ y.to ≤ n
  wok : ∀ y ∈ x.watches, (1 ≤ y.2 ∧ y.2 ≤ n) ∧ y.1 ≤ last
  wnd : (x.watches.map (·.1)).Nodup
  dok : ∀ y ∈ x.watched, 1 ≤ y.2 ∧ y.2 ≤ n
  why : x.lives = true → x.why = 0
/-- a signal on its way: between two that are; by a connection only between two nodes -/
structure FlyOk (s : St) (y : Fly) : Prop where
  fr : Ok s y.from_
  to : Ok s y.to
  far : y.by_ ≠ 0 → nodeOf s y.from_ ≠ nodeOf s y.to
structure Wf (s : St) : Prop where
  pr : ∀ x ∈ s.procs, PWf s.procs.length s.last x
  ar : ∀ y ∈ s.air, FlyOk s y
  wi : ∃ a b c, s.wires = [a, b, c]
  few : s.procs.length ≤ 12
theorem Wf.pwf {s : St} (W : Wf s) {p : Nat} (h : Ok s p) : PWf s.procs.length s.last (proc s p) := W.pr _ (proc_mem h)
theorem Wf.node {s : St} (W : Wf s) {p : Nat} (h : Ok s p) : 1 ≤ nodeOf s p ∧ nodeOf s p ≤ 3 := (W.pwf h).node
theorem PWf.mono {n m l k : Nat} {x : Proc} (h : PWf n l x) (hn : n ≤ m) (hl : l ≤ k) : PWf m k x :=
  ⟨h.node, h.lsort, fun y hy => ⟨(h.lok y hy).1, Nat.le_trans (h.lok y hy).2 hn⟩, fun y hy => ⟨⟨(h.wok y hy).1.1, Nat.le_trans (h.wok y hy).1.2 hn⟩, Nat.le_trans (h.wok y hy).2 hl⟩, h.wnd,
    fun y hy => ⟨(h.dok y hy).1, Nat.le_trans (h.dok y hy).2 hn⟩, h.why⟩
theorem pwf_fresh {n last a : Nat} (h : 1 ≤ a ∧ a ≤ 3) : PWf n last (fresh a) :=
  ⟨h, List.Pairwise.nil, fun _ h => (by cases h), fun _ h => (by cases h), List.nodup_nil, fun _ h => (by cases h), fun _ => rfl⟩
theorem pwf_dead {n last why : Nat} {x : Proc} (h : PWf n last x) : PWf n last (deadOf x why) :=
  ⟨h.node, List.Pairwise.nil, fun _ h => (by cases h), fun _ h => (by cases h), List.nodup_nil, fun _ h => (by cases h), fun h => (by cases h)⟩
theorem pwf_notes {n last : Nat} {x : Proc} {y : Note} (h : PWf n last x) : PWf n last (notes x y) := ⟨h.node, h.lsort, h.lok, h.wok, h.wnd, h.dok, h.why⟩
theorem pwf_with {n last q k : Nat} {x : Proc} (h : PWf n last x) (hq : 1 ≤ q ∧ q ≤ n) : PWf n last (withLink x q k) :=
  ⟨h.node, insertLink_sorted h.lsort, fun y hy => by
    rcases insertLink_mem hy with e | e
    · rw [e]; exact hq
    · exact h.lok y e, h.wok, h.wnd, h.dok, h.why⟩
theorem pwf_links {n last : Nat} {x : Proc} {f : Link → Bool} (h : PWf n last x) : PWf n last { x with links := x.links.filter f } :=
  ⟨h.node, h.lsort.filter _, fun y hy => h.lok y (List.mem_filter.mp hy).1, h.wok, h.wnd, h.dok, h.why⟩
theorem pwf_without {n last q : Nat} {x : Proc} (h : PWf n last x) : PWf n last (without x q) := pwf_links h
theorem nodup_filter {α : Type} {f : α → Nat × Nat} {l : List (Nat × Nat)} {g : Nat × Nat → Bool} (h : (l.map (·.1)).Nodup) : ((l.filter g).map (·.1)).Nodup :=
  (List.Sublist.map _ List.filter_sublist).nodup h
theorem pwf_watches {n last : Nat} {x : Proc} {f : Nat × Nat → Bool} (h : PWf n last x) : PWf n last { x with watches := x.watches.filter f } :=
  ⟨h.node, h.lsort, h.lok, fun y hy => h.wok y (List.mem_filter.mp hy).1, (List.Sublist.map _ List.filter_sublist).nodup h.wnd, h.dok, h.why⟩
theorem pwf_watched {n last : Nat} {x : Proc} {f : Nat × Nat → Bool} (h : PWf n last x) : PWf n last { x with watched := x.watched.filter f } :=
  ⟨h.node, h.lsort, h.lok, h.wok, h.wnd, fun y hy => h.dok y (List.mem_filter.mp hy).1, h.why⟩
theorem pwf_box {n last : Nat} {x : Proc} {b : List Note} (h : PWf n last x) : PWf n last { x with box := b } := ⟨h.node, h.lsort, h.lok, h.wok, h.wnd, h.dok, h.why⟩
theorem pwf_seen {n last k p : Nat} {x : Proc} (h : PWf n last x) (hp : 1 ≤ p ∧ p ≤ n) : PWf n last { x with watched := x.watched ++ [(k, p)] } :=
  ⟨h.node, h.lsort, h.lok, h.wok, h.wnd, fun y hy => by
    rcases List.mem_append.mp hy with e | e
    · exact h.dok y e
    · rw [List.mem_singleton.mp e]; exact hp, h.why⟩
theorem wf_set {s : St} {p : Nat} {x : Proc} (W : Wf s) (h : PWf s.procs.length s.last x) (hn : x.node = (proc s p).node := by rfl) : Wf (setProc s p x) :=
  ⟨fun y hy => by
    rw [set_len]
    rcases List.mem_or_eq_of_mem_set hy with e | e
    · exact W.pr y e
    · rw [e]; exact h, fun y hy => ⟨ok_set.mpr (W.ar y hy).fr, ok_set.mpr (W.ar y hy).to, by rw [node_set hn, node_set hn]; exact (W.ar y hy).far⟩, W.wi, by rw [set_len]; exact W.few⟩
theorem wf_puts {s : St} {l : List Fly} (W : Wf s) (h : ∀ y ∈ l, FlyOk s y) : Wf (puts s l) :=
  ⟨W.pr, fun y hy => have F : FlyOk s y := (List.mem_append.mp hy).elim (W.ar y) (h y); ⟨F.fr, F.to, F.far⟩, W.wi, W.few⟩
theorem sent_ok {s : St} {p q : Nat} {x : Sig} (hp : Ok s p) (hq : Ok s q) : ∀ y ∈ sent s p q x, FlyOk s y := by
  intro y hy
  unfold sent at hy
  split at hy
  · rw [List.mem_singleton.mp hy]; exact ⟨hp, hq, fun z => absurd rfl z⟩
  · rename_i hn
    split at hy
    · cases x <;> simp [noConn] at hy <;> (rw [hy]; exact ⟨hq, hp, fun z => absurd rfl z⟩)
    · split at hy
      · cases hy
      · rw [List.mem_singleton.mp hy]; exact ⟨hp, hq, fun _ => hn⟩
theorem wf_send {s : St} {p q : Nat} {x : Sig} (W : Wf s) (hp : Ok s p) (hq : Ok s q) : Wf (send s p q x) := by
  rw [send_eq]; exact wf_puts W (sent_ok hp hq)
theorem outs_ok {s : St} {p : Nat} (hp : Ok s p) {l : List (Nat × Sig)} (h : ∀ y ∈ l, Ok s y.1) : ∀ y ∈ outs s p l, FlyOk s y := by
  intro y hy
  obtain ⟨z, hz, hy⟩ := List.mem_flatMap.mp hy
  exact sent_ok hp (h z hz) y hy
theorem sigs_ok {n last why : Nat} {x : Proc} (h : PWf n last x) : ∀ y ∈ sigs x why, 1 ≤ y.1 ∧ y.1 ≤ n := by
  intro y hy
  rcases List.mem_append.mp hy with hy | hy
  · rcases List.mem_append.mp hy with hy | hy
    · obtain ⟨z, hz, e⟩ := List.mem_map.mp hy
      subst e
      exact h.lok z (List.mem_filter.mp hz).1
    · obtain ⟨z, hz, e⟩ := List.mem_map.mp hy
      subst e
      exact h.dok z hz
  · obtain ⟨z, hz, e⟩ := List.mem_map.mp hy
    subst e
    exact (h.wok z hz).1
theorem wf_dies {s : St} {p : Nat} (why : Nat) (W : Wf s) (hp : Ok s p) : Wf (dies s p why) := by
  rw [dies_eq]
  have W1 : Wf (puts s (outs s p (sigs (proc s p) why))) := wf_puts W (outs_ok hp (sigs_ok (W.pwf hp)))
  exact wf_set W1 (pwf_dead (W.pwf hp))
theorem wf_hit {s : St} {p : Nat} (n : Note) (W : Wf s) (hp : Ok s p) : Wf (hit s p n) := by
  unfold hit
  split
  · exact wf_set W (pwf_notes (W.pwf hp))
  · split
    · exact W
    · exact wf_dies _ W hp
theorem wf_dead {s : St} {p q : Nat} (x : Sig) (W : Wf s) (hp : Ok s p) (hq : Ok s q) : Wf (deadGets s p q x) := by
  cases x <;> simp only [deadGets] <;> first | exact W | exact wf_send W hq hp
theorem wf_gets {s : St} {p q : Nat} (x : Sig) (W : Wf s) (hp : Ok s p) (hq : Ok s q) : Wf (gets s p q x) := by
  have P := W.pwf hq
  have W1 : Wf (setProc s q (without (proc s q) p)) := wf_set W (pwf_without P)
  cases x with
  | word n => exact wf_set W (pwf_notes P)
  | link =>
    simp only [gets]
    split
    · exact W
    · exact wf_set W (pwf_with P hp)
  | cut k =>
    simp only [gets]
    split
    · split
      · exact wf_send W1 (ok_set.mpr hq) (ok_set.mpr hp)
      · exact wf_send W hq hp
    · exact wf_send W hq hp
  | heard k =>
    simp only [gets]
    split
    · split
      · exact W1
      · exact W
    · exact W
  | ended why =>
    simp only [gets]
    split
    · exact W
    · split
      · exact wf_hit _ W1 (ok_set.mpr hq)
      · exact W1
  | halt_ why =>
    simp only [gets]
    split
    · exact wf_dies _ W hq
    · exact wf_hit _ W hq
  | watch k => exact wf_set W (pwf_seen P hp)
  | unwatch k => exact wf_set W (pwf_watched P)
  | gone k why =>
    simp only [gets]
    split
    · exact wf_set W (pwf_notes (pwf_watches P))
    · exact W
theorem wf_arrives {s : St} {p q : Nat} (x : Sig) (W : Wf s) (hp : Ok s p) (hq : Ok s q) : Wf (arrives s p q x) := by
  unfold arrives
  split
  · exact wf_gets x W hp hq
  · exact wf_dead x W hp hq
theorem wf_comes {s : St} {y : Fly} (W : Wf s) (hp : Ok s y.from_) (hq : Ok s y.to) : Wf (comes s y) := by
  unfold comes
  split
  · exact wf_arrives _ W hp hq
  · exact W
theorem wf_air {s : St} {l : List Fly} (W : Wf s) (h : ∀ y ∈ l, y ∈ s.air) : Wf { s with air := l } := ⟨W.pr, fun y hy => ⟨(W.ar y (h y hy)).fr, (W.ar y (h y hy)).to, (W.ar y (h y hy)).far⟩, W.wi, W.few⟩
theorem wf_cutOff {b : Nat} {s : St} {p : Nat} (W : Wf s) (hp : Ok s p) : Wf (cutOff b s p) := by
  unfold cutOff
  split
  · exact W
  · dsimp only
    have P := W.pwf hp
    refine (show ∀ (l : List Link) (t : St), Wf t → Ok t p → Wf (l.foldl (fun u y => if lives u p = true then hit u p ⟨1, y.to, CUTOFF⟩ else u) t) from ?_) _ _ ?_ (ok_set.mpr hp)
    · intro l
      induction l with
      | nil => intro t h _; exact h
      | cons y r ih =>
        intro t h o
        rw [List.foldl_cons]
        split
        · exact ih _ (wf_hit _ h o) ((keep_hit t p _).ok.mpr o)
        · exact ih _ h o
    · refine wf_set W ?_
      exact ⟨P.node, P.lsort.filter _, fun y hy => P.lok y (List.mem_filter.mp hy).1, fun y hy => P.wok y (List.mem_filter.mp hy).1,
        (List.Sublist.map _ List.filter_sublist).nodup P.wnd, fun y hy => P.dok y (List.mem_filter.mp hy).1, P.why⟩
end PN
end
section
/-! How much a state holds, by weights that no arrival makes greater. Plain Lean. -/
namespace PN
open Ha05

structure Wt where
  wl : Nat
  ww : Nat → Nat
  wd : Nat → Nat
  wn : Nat
  sg : Sig → Nat
structure WtOk (w : Wt) : Prop where
  link_l : w.wl ≤ w.sg .link
  link_e : ∀ y, w.sg (.ended y) ≤ w.sg .link
  cut_h : ∀ k, w.sg (.heard k) ≤ w.sg (.cut k)
  l_e : ∀ y, w.sg (.ended y) ≤ w.wl
  l_n : w.wn ≤ w.wl
  word_n : ∀ n, w.wn ≤ w.sg (.word n)
  halt_n : ∀ n, w.wn ≤ w.sg (.halt_ n)
  wd_g : ∀ k y, w.sg (.gone k y) ≤ w.wd k
  ww_u : ∀ k, w.sg (.unwatch k) ≤ w.ww k
  ww_n : ∀ k, w.wn ≤ w.ww k
  wa_d : ∀ k, w.wd k ≤ w.sg (.watch k)
  wa_g : ∀ k y, w.sg (.gone k y) ≤ w.sg (.watch k)
def sumW (f : Nat → Nat) (l : List (Nat × Nat)) : Nat := (l.map fun y => f y.1).sum
def pw (w : Wt) (x : Proc) : Nat := w.wl * x.links.length + sumW w.ww x.watches + sumW w.wd x.watched + w.wn * x.box.length
def aw (w : Wt) (l : List Fly) : Nat := (l.map fun y => w.sg y.what).sum
def qw (w : Wt) (l : List Proc) : Nat := (l.map (pw w)).sum
def tw (w : Wt) (s : St) : Nat := aw w s.air + qw w s.procs
theorem sumW_nil (f : Nat → Nat) : sumW f [] = 0 := rfl
theorem sumW_cons (f : Nat → Nat) (y : Nat × Nat) (l : List (Nat × Nat)) : sumW f (y :: l) = f y.1 + sumW f l := by simp [sumW]
theorem sumW_append (f : Nat → Nat) (l m : List (Nat × Nat)) : sumW f (l ++ m) = sumW f l + sumW f m := by simp [sumW]
theorem sumW_filter (f : Nat → Nat) (g : Nat × Nat → Bool) : ∀ l : List (Nat × Nat), sumW f (l.filter g) + sumW f (l.filter fun y => !g y) = sumW f l
  | [] => rfl
  | y :: r => by
    have := sumW_filter f g r
    rw [sumW_cons, List.filter_cons, List.filter_cons]
    cases g y <;> simp [sumW_cons] <;> omega
theorem sumW_filter_le (f : Nat → Nat) (g : Nat × Nat → Bool) (l : List (Nat × Nat)) : sumW f (l.filter g) ≤ sumW f l := by
  have := sumW_filter f g l; omega
theorem aw_nil (w : Wt) : aw w [] = 0 := rfl
theorem aw_cons (w : Wt) (y : Fly) (l : List Fly) : aw w (y :: l) = w.sg y.what + aw w l := by simp [aw]
theorem aw_append (w : Wt) (l m : List Fly) : aw w (l ++ m) = aw w l + aw w m := by simp [aw]
theorem aw_erase (w : Wt) : ∀ (l : List Fly) (i : Nat) (y : Fly), l[i]? = some y → aw w (l.eraseIdx i) + w.sg y.what = aw w l
  | [], i, y, h => by simp at h
  | a :: r, 0, y, h => by
    have e : a = y := by simpa using h
    subst e
    rw [List.eraseIdx_cons_zero, aw_cons]; omega
  | a :: r, i + 1, y, h => by
    have := aw_erase w r i y (by simpa using h)
    rw [List.eraseIdx_cons_succ, aw_cons, aw_cons]; omega
theorem qw_append (w : Wt) (l m : List Proc) : qw w (l ++ m) = qw w l + qw w m := by simp [qw]
theorem qw_set (w : Wt) : ∀ (l : List Proc) (i : Nat) (x y : Proc), l[i]? = some y → qw w (l.set i x) + pw w y = qw w l + pw w x
  | [], i, x, y, h => by simp at h
  | a :: r, 0, x, y, h => by
    have e : a = y := by simpa using h
    subst e
    simp [qw]; omega
  | a :: r, i + 1, x, y, h => by
    have := qw_set w r i x y (by simpa using h)
    simp only [qw, List.set_cons_succ, List.map_cons, List.sum_cons] at *; omega
theorem pw_le_qw (w : Wt) : ∀ (l : List Proc) (x : Proc), x ∈ l → pw w x ≤ qw w l
  | a :: r, x, h => by
    simp only [qw, List.map_cons, List.sum_cons]
    rcases List.mem_cons.mp h with e | e
    · subst e; omega
    · have := pw_le_qw w r x e
      simp only [qw] at this; omega
theorem tw_set {w : Wt} {s : St} {p : Nat} {x : Proc} (h : Ok s p) : tw w (setProc s p x) + pw w (proc s p) = tw w s + pw w x := by
  have := qw_set w s.procs (p - 1) x (proc s p) (proc_some h)
  show aw w s.air + qw w (s.procs.set (p - 1) x) + _ = aw w s.air + qw w s.procs + _
  omega
theorem tw_puts {w : Wt} {s : St} {l : List Fly} : tw w (puts s l) = tw w s + aw w l := by
  show aw w (s.air ++ l) + qw w s.procs = aw w s.air + qw w s.procs + aw w l
  rw [aw_append]; omega
theorem aw_sent {w : Wt} (o : WtOk w) {s : St} {p q : Nat} {x : Sig} : aw w (sent s p q x) ≤ w.sg x := by
  unfold sent
  split
  · simp [aw]
  · split
    · cases x <;> simp [noConn, aw]
      · exact o.link_e _
      · exact o.cut_h _
      · exact o.wa_g _ _
    · split
      · simp [aw]
      · simp [aw]
theorem tw_send {w : Wt} (o : WtOk w) {s : St} {p q : Nat} {x : Sig} : tw w (send s p q x) ≤ tw w s + w.sg x := by
  rw [send_eq, tw_puts]
  have := aw_sent o (s := s) (p := p) (q := q) (x := x); omega
def sgs (w : Wt) (l : List (Nat × Sig)) : Nat := (l.map fun y => w.sg y.2).sum
theorem aw_outs {w : Wt} (o : WtOk w) {s : St} {p : Nat} : ∀ (l : List (Nat × Sig)), aw w (outs s p l) ≤ sgs w l
  | [] => by simp [outs, aw, sgs]
  | y :: r => by
    have h1 := aw_outs o (s := s) (p := p) r
    have h2 := aw_sent o (s := s) (p := p) (q := y.1) (x := y.2)
    have e : outs s p (y :: r) = sent s p y.1 y.2 ++ outs s p r := by simp [outs]
    rw [e, aw_append]
    simp only [sgs, List.map_cons, List.sum_cons] at *; omega
theorem sgs_append (w : Wt) (l m : List (Nat × Sig)) : sgs w (l ++ m) = sgs w l + sgs w m := by simp [sgs]
theorem sgs_L {w : Wt} (o : WtOk w) (why : Nat) : ∀ (l : List Link), sgs w (l.map fun y => (y.to, Sig.ended why)) ≤ w.wl * l.length
  | [] => by simp [sgs]
  | y :: r => by
    have h1 := sgs_L o why r
    have h2 := o.l_e why
    simp only [sgs, List.map_cons, List.sum_cons, List.length_cons, Nat.mul_succ] at *; omega
theorem sgs_D {w : Wt} (o : WtOk w) (why : Nat) : ∀ (l : List (Nat × Nat)), sgs w (l.map fun y => (y.2, Sig.gone y.1 why)) ≤ sumW w.wd l
  | [] => by simp [sgs]
  | y :: r => by
    have h1 := sgs_D o why r
    have h2 := o.wd_g y.1 why
    simp only [sgs, sumW, List.map_cons, List.sum_cons] at *; omega
theorem sgs_W {w : Wt} (o : WtOk w) : ∀ (l : List (Nat × Nat)), sgs w (l.map fun y => (y.2, Sig.unwatch y.1)) ≤ sumW w.ww l
  | [] => by simp [sgs]
  | y :: r => by
    have h1 := sgs_W o r
    have h2 := o.ww_u y.1
    simp only [sgs, sumW, List.map_cons, List.sum_cons] at *; omega
theorem mul_filter_le {α : Type} (c : Nat) (f : α → Bool) (l : List α) : c * (l.filter f).length ≤ c * l.length := Nat.mul_le_mul_left _ (List.length_filter_le _ _)
theorem sgs_sigs {w : Wt} (o : WtOk w) (x : Proc) (why : Nat) : sgs w (sigs x why) + w.wn * x.box.length ≤ pw w x := by
  unfold sigs
  rw [sgs_append, sgs_append]
  have h1 := sgs_L o why (x.links.filter fun y => y.cutting == 0)
  have h0 := mul_filter_le w.wl (fun y : Link => y.cutting == 0) x.links
  have h2 := sgs_D o why x.watched
  have h3 := sgs_W o x.watches
  unfold sigsL sigsD sigsW pw
  omega
theorem pw_dead (w : Wt) (x : Proc) (why : Nat) : pw w (deadOf x why) = w.wn * x.box.length := by simp [pw, deadOf, sumW]
theorem tw_dies {w : Wt} (o : WtOk w) {s : St} {p why : Nat} (hp : Ok s p) : tw w (dies s p why) ≤ tw w s := by
  rw [dies_eq]
  have h1 := tw_set (w := w) (s := puts s (outs s p (sigs (proc s p) why))) (x := deadOf (proc s p) why) (p := p) hp
  rw [tw_puts, proc_puts, pw_dead] at h1
  have h2 := aw_outs o (s := s) (p := p) (sigs (proc s p) why)
  have h3 := sgs_sigs o (proc s p) why
  omega
theorem pw_notes (w : Wt) (x : Proc) (n : Note) : pw w (notes x n) = pw w x + w.wn := by
  simp [pw, notes, Nat.mul_succ]; omega
theorem tw_note {w : Wt} {s : St} {p : Nat} {n : Note} (hp : Ok s p) : tw w (setProc s p (notes (proc s p) n)) = tw w s + w.wn := by
  have h1 := tw_set (w := w) (x := notes (proc s p) n) hp
  rw [pw_notes] at h1; omega
theorem tw_hit {w : Wt} (o : WtOk w) {s : St} {p : Nat} {n : Note} (hp : Ok s p) : tw w (hit s p n) ≤ tw w s + w.wn := by
  unfold hit
  split
  · rw [tw_note hp]; exact Nat.le_refl _
  · split
    · omega
    · have := tw_dies o (s := s) (p := p) (why := n.n) hp; omega
theorem tw_dead {w : Wt} (o : WtOk w) {s : St} {p q : Nat} {x : Sig} : tw w (deadGets s p q x) ≤ tw w s + w.sg x := by
  cases x <;> simp only [deadGets] <;> try omega
  · have h1 := tw_send o (s := s) (p := q) (q := p) (x := .ended NOBODY)
    have h2 := o.link_e NOBODY; omega
  · rename_i k
    have h1 := tw_send o (s := s) (p := q) (q := p) (x := .heard k)
    have h2 := o.cut_h k; omega
  · rename_i k
    have h1 := tw_send o (s := s) (p := q) (q := p) (x := .gone k NOBODY)
    have h2 := o.wa_g k NOBODY; omega
theorem filter_to_len (q : Nat) : ∀ {l : List Link} {y : Link}, (l.find? fun y => y.to == q) = some y → (l.filter fun y => y.to != q).length + 1 ≤ l.length
  | [], y, h => by simp at h
  | a :: r, y, h => by
    rw [List.find?_cons] at h
    rw [List.filter_cons]
    cases e : (a.to == q) with
    | true =>
      have e2 : (a.to != q) = false := by simp [bne, e]
      rw [if_neg (by rw [e2]; simp)]
      have := List.length_filter_le (fun y : Link => y.to != q) r
      simp only [List.length_cons]; omega
    | false =>
      rw [e] at h
      have := filter_to_len q h
      split <;> simp only [List.length_cons] <;> omega
theorem pw_without {w : Wt} {x : Proc} {q : Nat} {y : Link} (h : linkTo x q = some y) : pw w (without x q) + w.wl ≤ pw w x := by
  have h1 := filter_to_len q h
  have h2 : w.wl * ((x.links.filter fun y => y.to != q).length + 1) ≤ w.wl * x.links.length := Nat.mul_le_mul_left _ h1
  rw [Nat.mul_succ] at h2
  unfold pw without
  simp only at *
  omega
theorem tw_without {w : Wt} {s : St} {p q : Nat} {y : Link} (hp : Ok s p) (h : linkTo (proc s p) q = some y) : tw w (setProc s p (without (proc s p) q)) + w.wl ≤ tw w s := by
  have h1 := tw_set (w := w) (x := without (proc s p) q) hp
  have h2 := pw_without (w := w) h
  omega
theorem pw_with {w : Wt} {x : Proc} {q k : Nat} : pw w (withLink x q k) ≤ pw w x + w.wl := by
  have h1 := insertLink_len (y := ⟨q, k⟩) x.links
  have h2 : w.wl * (insertLink ⟨q, k⟩ x.links).length ≤ w.wl * (x.links.length + 1) := Nat.mul_le_mul_left _ h1
  rw [Nat.mul_succ] at h2
  unfold pw withLink
  simp only at *
  omega
theorem filter_sum_lt {f : Nat → Nat} {k : Nat} : ∀ {l : List (Nat × Nat)}, (l.any fun y => y.1 == k) = true → sumW f (l.filter fun y => y.1 != k) + f k ≤ sumW f l
  | [], h => by simp at h
  | a :: r, h => by
    rw [List.filter_cons, sumW_cons]
    have h0 := sumW_filter_le f (fun y : Nat × Nat => y.1 != k) r
    by_cases e : a.1 = k
    · have e2 : (a.1 != k) = false := by simp [e]
      rw [if_neg (by rw [e2]; simp), e]; omega
    · have e2 : (a.1 != k) = true := by simp [e]
      have h1 : (r.any fun y => y.1 == k) = true := by
        rw [List.any_cons] at h
        simpa [e] using h
      have := filter_sum_lt (f := f) h1
      rw [if_pos e2, sumW_cons]; omega
/-- a process that is watched so -/
def setD (x : Proc) (l : List (Nat × Nat)) : Proc := { x with watched := l }
def setW (x : Proc) (l : List (Nat × Nat)) : Proc := { x with watches := l }
theorem tw_gets {w : Wt} (o : WtOk w) {s : St} {p q : Nat} {x : Sig} (hq : Ok s q) : tw w (gets s p q x) ≤ tw w s + w.sg x := by
  cases x with
  | word n =>
    have := tw_note (w := w) (n := ⟨0, p, n⟩) hq
    have := o.word_n n
    simp only [gets]; omega
  | link =>
    simp only [gets]
    split
    · omega
    · have h1 := tw_set (w := w) (x := withLink (proc s q) p 0) hq
      have h2 := pw_with (w := w) (x := proc s q) (q := p) (k := 0)
      have h3 := o.link_l; omega
  | cut k =>
    simp only [gets]
    have h0 := o.cut_h k
    split
    · rename_i y e
      split
      · have h1 := tw_send o (s := setProc s q (without (proc s q) p)) (p := q) (q := p) (x := .heard k)
        have h2 := tw_without (w := w) hq e
        omega
      · have h1 := tw_send o (s := s) (p := q) (q := p) (x := .heard k); omega
    · have h1 := tw_send o (s := s) (p := q) (q := p) (x := .heard k); omega
  | heard k =>
    simp only [gets]
    split
    · rename_i y e
      split
      · have h2 := tw_without (w := w) hq e; omega
      · omega
    · omega
  | ended why =>
    simp only [gets]
    split
    · omega
    · rename_i y e
      have h2 := tw_without (w := w) hq e
      split
      · have h1 := tw_hit o (s := setProc s q (without (proc s q) p)) (p := q) (n := ⟨1, p, why⟩) (ok_set.mpr hq)
        have h3 := o.l_n; omega
      · omega
  | halt_ why =>
    simp only [gets]
    split
    · have := tw_dies o (s := s) (p := q) (why := KILLED) hq; omega
    · have := tw_hit o (s := s) (p := q) (n := ⟨3, p, why⟩) hq
      have := o.halt_n why; omega
  | watch k =>
    have h1 := tw_set (w := w) (x := setD (proc s q) ((proc s q).watched ++ [(k, p)])) hq
    have h2 : pw w (setD (proc s q) ((proc s q).watched ++ [(k, p)])) = pw w (proc s q) + w.wd k := by simp [pw, setD, sumW]; omega
    have h3 := o.wa_d k
    show tw w (setProc s q (setD (proc s q) ((proc s q).watched ++ [(k, p)]))) ≤ _
    omega
  | unwatch k =>
    have h1 := tw_set (w := w) (x := setD (proc s q) ((proc s q).watched.filter fun y => y.1 != k)) hq
    have h2 := sumW_filter_le w.wd (fun y => y.1 != k) (proc s q).watched
    have h3 : pw w (setD (proc s q) ((proc s q).watched.filter fun y => y.1 != k)) ≤ pw w (proc s q) := by simp only [pw, setD]; omega
    show tw w (setProc s q (setD (proc s q) ((proc s q).watched.filter fun y => y.1 != k))) ≤ _
    omega
  | gone k why =>
    show tw w (if ((proc s q).watches.any fun y => y.1 == k) = true then setProc s q (notes (setW (proc s q) ((proc s q).watches.filter fun y => y.1 != k)) ⟨2, k, why⟩) else s) ≤ _
    split
    · rename_i e
      have h1 := tw_set (w := w) (x := notes (setW (proc s q) ((proc s q).watches.filter fun y => y.1 != k)) ⟨2, k, why⟩) hq
      rw [pw_notes] at h1
      have h2 := filter_sum_lt (f := w.ww) e
      have h3 : pw w (setW (proc s q) ((proc s q).watches.filter fun y => y.1 != k)) + w.ww k ≤ pw w (proc s q) := by simp only [pw, setW]; omega
      have h4 := o.ww_n k
      omega
    · omega
theorem tw_arrives {w : Wt} (o : WtOk w) {s : St} {p q : Nat} {x : Sig} (hq : Ok s q) : tw w (arrives s p q x) ≤ tw w s + w.sg x := by
  unfold arrives
  split
  · exact tw_gets o hq
  · exact tw_dead o
theorem tw_comes {w : Wt} (o : WtOk w) {s : St} {y : Fly} (hq : Ok s y.to) : tw w (comes s y) ≤ tw w s + w.sg y.what := by
  unfold comes
  split
  · exact tw_arrives o hq
  · omega
theorem sum_ww_n {w : Wt} (o : WtOk w) : ∀ (l : List (Nat × Nat)), w.wn * l.length ≤ sumW w.ww l
  | [] => by simp
  | y :: r => by
    have h1 := sum_ww_n o r
    have h2 := o.ww_n y.1
    rw [sumW_cons, List.length_cons, Nat.mul_succ]; omega
theorem len_split {α : Type} (f : α → Bool) : ∀ l : List α, (l.filter f).length + (l.filter fun y => !f y).length = l.length
  | [] => rfl
  | y :: r => by
    have := len_split f r
    rw [List.filter_cons, List.filter_cons]
    cases f y <;> simp <;> omega
theorem tw_cutOff {w : Wt} (o : WtOk w) {b : Nat} {s : St} {p : Nat} (hp : Ok s p) : tw w (cutOff b s p) ≤ tw w s := by
  unfold cutOff
  split
  · omega
  · dsimp only
    let x := proc s p
    let far : Nat → Bool := fun q => nodeOf s q == b
    let y : Proc := { x with
      links := x.links.filter fun y => !far y.to
      watches := x.watches.filter fun y => !far y.2
      watched := x.watched.filter fun y => !far y.2
      box := x.box ++ (x.watches.filter fun y => far y.2).map fun y => ⟨2, y.1, CUTOFF⟩ }
    have fold : ∀ (l : List Link) (t : St), Ok t p → tw w (l.foldl (fun u y => if lives u p = true then hit u p ⟨1, y.to, CUTOFF⟩ else u) t) ≤ tw w t + w.wn * l.length := by
      intro l
      induction l with
      | nil => intro t _; simp
      | cons y r ih =>
        intro t ht
        rw [List.foldl_cons, List.length_cons, Nat.mul_succ]
        split
        · have h1 := ih (hit t p ⟨1, y.to, CUTOFF⟩) ((keep_hit t p _).ok.mpr ht)
          have h2 := tw_hit o (s := t) (p := p) (n := ⟨1, y.to, CUTOFF⟩) ht
          omega
        · have h1 := ih t ht; omega
    have h1 := fold ((x.links.filter fun y => far y.to).filter fun y => y.cutting == 0) (setProc s p y) (ok_set.mpr hp)
    have h2 := tw_set (w := w) (x := y) hp
    have h3 : pw w y + w.wn * (x.links.filter fun y => far y.to).length ≤ pw w x := by
      have a1 := len_split (fun y : Link => far y.to) x.links
      have a2 : w.wl * (x.links.filter fun y => far y.to).length + w.wl * (x.links.filter fun y => !far y.to).length = w.wl * x.links.length := by rw [← Nat.mul_add, a1]
      have a3 := sumW_filter w.ww (fun y => far y.2) x.watches
      have a4 := sumW_filter_le w.wd (fun y => !far y.2) x.watched
      have a5 := sum_ww_n o (x.watches.filter fun y => far y.2)
      have a6 : w.wn * (x.links.filter fun y => far y.to).length ≤ w.wl * (x.links.filter fun y => far y.to).length := Nat.mul_le_mul_right _ o.l_n
      have a7 : w.wn * (x.box ++ (x.watches.filter fun y => far y.2).map fun y => (⟨2, y.1, CUTOFF⟩ : Note)).length = w.wn * x.box.length + w.wn * (x.watches.filter fun y => far y.2).length := by
        rw [List.length_append, List.length_map, Nat.mul_add]
      simp only [pw, y]
      omega
    have h4 := mul_filter_le w.wn (fun y : Link => y.cutting == 0) (x.links.filter fun y => far y.to)
    have h5 : pw w (proc s p) = pw w x := rfl
    have h6 : tw w (List.foldl (fun u y => if lives u p = true then hit u p ⟨1, y.to, CUTOFF⟩ else u) (setProc s p y) ((x.links.filter fun y => far y.to).filter fun y => y.cutting == 0)) ≤ tw w s := by omega
    exact h6
end PN
end
section
/-! What comes back; sizes; dicts and lists of links. Plain Lean. -/
namespace PN
open Ha05
def backSig (x : Sig) (why : Nat) : Option Sig := match x with
  | .link => some (.ended why)
  | .cut k => some (.heard k)
  | .watch k => some (.gone k why)
  | _ => none
theorem noConn_some {p q : Nat} {x y : Sig} (h : backSig x 4 = some y) : noConn p q x = [⟨q, p, y, 0⟩] := by
  cases x <;> simp [backSig] at h <;> subst h <;> rfl
theorem noConn_none {p q : Nat} {x : Sig} (h : backSig x 4 = none) : noConn p q x = [] := by
  cases x <;> simp [backSig] at h <;> rfl
theorem dead_some {s : St} {p q : Nat} {x y : Sig} (h : backSig x 3 = some y) : deadGets s p q x = send s q p y := by
  cases x <;> simp [backSig] at h <;> subst h <;> rfl
theorem dead_none {s : St} {p q : Nat} {x : Sig} (h : backSig x 3 = none) : deadGets s p q x = s := by
  cases x <;> simp [backSig] at h <;> rfl
theorem sent_len (s : St) (p q : Nat) (x : Sig) : (sent s p q x).length ≤ 1 := by
  unfold sent
  split
  · simp
  · split
    · cases x <;> simp [noConn]
    · split <;> simp
theorem outs_len (s : St) (p : Nat) : ∀ l : List (Nat × Sig), (outs s p l).length ≤ l.length
  | [] => by simp [outs]
  | y :: r => by
    have h1 := outs_len s p r
    have h2 := sent_len s p y.1 y.2
    have e : outs s p (y :: r) = sent s p y.1 y.2 ++ outs s p r := by simp [outs]
    rw [e, List.length_append, List.length_cons]; omega
/-! ### the two weights -/
def one : Wt := ⟨1, fun _ => 1, fun _ => 1, 1, fun _ => 1⟩
theorem one_ok : WtOk one := by constructor <;> intros <;> simp [one]
def cw (k : Nat) : Wt := ⟨0, fun _ => 0, fun j => if j = k then 1 else 0, 0, fun x => match x with
  | .watch j => if j = k then 1 else 0
  | _ => 0⟩
theorem cw_ok (k : Nat) : WtOk (cw k) := by constructor <;> intros <;> simp [cw]
/-- no more than so much -/
def Sml (n : Nat) (s : St) : Prop := tw one s ≤ n
theorem sum_one : ∀ l : List (Nat × Nat), sumW one.ww l = l.length
  | [] => rfl
  | y :: r => by rw [sumW_cons, sum_one r]; simp [one]; omega
theorem sum_oned : ∀ l : List (Nat × Nat), sumW one.wd l = l.length
  | [] => rfl
  | y :: r => by rw [sumW_cons, sum_oned r]; simp [one]; omega
theorem aw_one : ∀ l : List Fly, aw one l = l.length
  | [] => rfl
  | y :: r => by rw [aw_cons, aw_one r]; simp [one]; omega
theorem pw_one (x : Proc) : pw one x = x.links.length + x.watches.length + x.watched.length + x.box.length := by
  unfold pw
  rw [sum_one, sum_oned]; simp [one]
theorem Sml.air {n : Nat} {s : St} (h : Sml n s) : s.air.length ≤ n := by
  have e : tw one s = s.air.length + qw one s.procs := by unfold tw; rw [aw_one]
  unfold Sml at h; omega
theorem sml_proc {n : Nat} {s : St} (h : Sml n s) {p : Nat} (hp : Ok s p) : (proc s p).links.length + (proc s p).watches.length + (proc s p).watched.length + (proc s p).box.length ≤ n := by
  have h1 := pw_le_qw one s.procs (proc s p) (proc_mem hp)
  rw [pw_one] at h1
  unfold Sml tw at h; omega
theorem Sml.mono {n m : Nat} {s : St} (h : Sml n s) (l : n ≤ m) : Sml m s := Nat.le_trans h l
theorem sigs_len (x : Proc) (why : Nat) : (sigs x why).length ≤ x.links.length + x.watched.length + x.watches.length := by
  unfold sigs sigsL sigsD sigsW
  have := List.length_filter_le (fun y : Link => y.cutting == 0) x.links
  simp only [List.length_append, List.length_map]; omega
/-- strictly rising numbers from 1 to n are at most n -/
theorem rising_len : ∀ (l : List Nat) (a n : Nat), l.Pairwise (· < ·) → (∀ x ∈ l, a < x ∧ x ≤ n) → l.length + a ≤ n ∨ l = []
  | [], _, _, _, _ => .inr rfl
  | x :: r, a, n, h, hm => by
    obtain ⟨h1, h2⟩ := List.pairwise_cons.mp h
    have hx := hm x List.mem_cons_self
    rcases rising_len r x n h2 (fun y hy => ⟨h1 y hy, (hm y (List.mem_cons_of_mem _ hy)).2⟩) with q | q
    · exact .inl (by rw [List.length_cons]; omega)
    · subst q
      exact .inl (by simp; omega)
theorem PWf.links_len {n last : Nat} {x : Proc} (h : PWf n last x) : x.links.length ≤ n := by
  have h1 : (x.links.map (·.to)).Pairwise (· < ·) := List.pairwise_map.mpr h.lsort
  rcases rising_len (x.links.map (·.to)) 0 n h1 (fun y hy => by
    obtain ⟨z, hz, e⟩ := List.mem_map.mp hy
    subst e
    have := h.lok z hz
    omega) with q | q
  · rw [List.length_map] at q; omega
  · have := congrArg List.length q
    rw [List.length_map] at this
    simp at this
    rw [this]; simp
end PN
end
section
/-! What holds between two calls. Plain Lean. -/
namespace PN
open Ha05
/-- between two calls: in form, so small, and each watch's number stands once -/
structure Good (n : Nat) (s : St) : Prop where
  wf : Wf s
  sz : Sml n s
  un : ∀ k, tw (cw k) s ≤ 1
  nw : ∀ k, s.last < k → tw (cw k) s = 0
theorem Good.mono {n m : Nat} {s : St} (h : Good n s) (l : n ≤ m) : Good m s := ⟨h.wf, h.sz.mono l, h.un, h.nw⟩
theorem Good.le {n : Nat} {s t : St} (g : Good n s) (W : Wf t) (h : ∀ w, WtOk w → tw w t ≤ tw w s) (hl : t.last = s.last) : Good n t :=
  ⟨W, Nat.le_trans (h one one_ok) g.sz, fun k => Nat.le_trans (h _ (cw_ok k)) (g.un k), fun k hk => Nat.le_zero.mp (Nat.le_trans (h _ (cw_ok k)) (Nat.le_of_eq (g.nw k (by rw [← hl]; exact hk))))⟩
theorem cw_mem {k : Nat} : ∀ {l : List (Nat × Nat)} {z : Nat × Nat}, z ∈ l → z.1 = k → 1 ≤ sumW (cw k).wd l
  | a :: r, z, h, e => by
    rw [sumW_cons]
    rcases List.mem_cons.mp h with q | q
    · subst q
      have : (cw k).wd z.1 = 1 := by simp [cw, e]
      omega
    · have := cw_mem (k := k) q e
      omega
/-- a watch that comes is not yet there -/
theorem Good.watch {n : Nat} {s : St} (g : Good n s) {i : Nat} {y : Fly} (hy : s.air[i]? = some y) (ho : Ok s y.to) : ∀ k, y.what = .watch k → ∀ z ∈ (proc s y.to).watched, z.1 ≠ k := by
  intro k hk z hz e
  have h1 := aw_erase (cw k) s.air i y hy
  have h2 : (cw k).sg y.what = 1 := by rw [hk]; simp [cw]
  have h3 := pw_le_qw (cw k) s.procs (proc s y.to) (proc_mem ho)
  have h4 := cw_mem hz e
  have h5 : sumW (cw k).wd (proc s y.to).watched ≤ pw (cw k) (proc s y.to) := by unfold pw; omega
  have h6 : aw (cw k) s.air + qw (cw k) s.procs ≤ 1 := g.un k
  omega
theorem good_comes {n : Nat} {s : St} (g : Good n s) {i : Nat} {y : Fly} (hy : s.air[i]? = some y) : Good n (comes { s with air := s.air.eraseIdx i } y) := by
  have F := g.wf.ar y (List.mem_of_getElem? hy)
  have W1 : Wf { s with air := s.air.eraseIdx i } := wf_air g.wf fun z hz => List.mem_of_mem_eraseIdx hz
  refine g.le (wf_comes W1 F.fr F.to) (fun w o => ?_) (keep_comes _ y).last
  have h1 := tw_comes o (s := { s with air := s.air.eraseIdx i }) (y := y) F.to
  have h2 := aw_erase w s.air i y hy
  have h3 : tw w { s with air := s.air.eraseIdx i } = aw w (s.air.eraseIdx i) + qw w s.procs := rfl
  have h4 : tw w s = aw w s.air + qw w s.procs := rfl
  omega
theorem good_rounds : ∀ (m : Nat) {n : Nat} {s : St}, Good n s → Good n (Ha05.rounds m s).1
  | 0, _, _, g => g
  | m + 1, n, s, g => by
    unfold Ha05.rounds
    cases e : s.air with
    | nil => exact g
    | cons y r =>
      have h := good_comes g (i := 0) (y := y) (by rw [e]; rfl)
      have e2 : s.air.eraseIdx 0 = r := by rw [e]; rfl
      rw [e2] at h
      exact good_rounds m h
/-! ### losses -/
theorem good_fold {α : Type} {n : Nat} (f : St → α → St) : ∀ (l : List α) (s : St), (∀ t a, a ∈ l → t.procs.length = s.procs.length → Good n t → Good n (f t a) ∧ (f t a).procs.length = s.procs.length) → Good n s → Good n (l.foldl f s)
  | [], s, _, g => g
  | a :: r, s, h, g => by
    obtain ⟨g1, l1⟩ := h s a List.mem_cons_self rfl g
    refine good_fold f r (f s a) (fun t b hb hl gt => ?_) g1
    have := h t b (List.mem_cons_of_mem _ hb) (hl.trans l1) gt
    rw [l1]
    exact this
theorem good_cutOff {n b p : Nat} {s : St} (g : Good n s) (hp : Ok s p) : Good n (cutOff b s p) :=
  g.le (wf_cutOff g.wf hp) (fun w o => tw_cutOff o hp) (keep_cutOff b s p).last
theorem wires_set {s : St} {a b : Nat} {w : Wire} (h : ∃ x y z, s.wires = [x, y, z]) : ∃ x y z, (setWire s a b w).wires = [x, y, z] := by
  obtain ⟨x, y, z, e⟩ := h
  have hl : (s.wires.set (wireOf a b) w).length = 3 := by rw [List.length_set, e]; rfl
  match h : s.wires.set (wireOf a b) w, hl with
  | [u, v, t], _ => exact ⟨u, v, t, h⟩
theorem wf_wire {s : St} {a b : Nat} {w : Wire} (W : Wf s) : Wf (setWire s a b w) :=
  ⟨W.pr, fun y hy => ⟨(W.ar y hy).fr, (W.ar y hy).to, (W.ar y hy).far⟩, wires_set W.wi, W.few⟩
theorem good_wire {n : Nat} {s : St} {a b : Nat} {w : Wire} (g : Good n s) : Good n (setWire s a b w) := g.le (wf_wire g.wf) (fun _ _ => Nat.le_refl _) rfl
theorem good_notices {n : Nat} {s : St} {a b : Nat} (g : Good n s) : Good n (notices s a b) := by
  unfold Ha05.notices
  dsimp only
  refine good_fold _ _ _ (fun t p hp hl gt => ?_) (good_wire g)
  obtain ⟨i, hi, e⟩ := List.mem_map.mp (List.mem_filter.mp hp).1
  have hi' := List.mem_range.mp hi
  have hl' : t.procs.length = s.procs.length := hl
  have ok : Ok t p := ⟨by omega, by omega⟩
  exact ⟨good_cutOff gt ok, (keep_cutOff b t p).len.trans hl⟩
theorem good_if {n : Nat} {c : Prop} [Decidable c] {s t : St} (g1 : Good n s) (g2 : Good n t) : Good n (if c then s else t) := by split <;> assumption
theorem good_conns {n k : Nat} {s : St} (g : Good n s) : Good n { s with conns := k } :=
  g.le ⟨g.wf.pr, fun y hy => ⟨(g.wf.ar y hy).fr, (g.wf.ar y hy).to, (g.wf.ar y hy).far⟩, g.wf.wi, g.wf.few⟩ (fun _ _ => Nat.le_refl _) rfl
theorem good_breaks {n a b : Nat} {s : St} (g : Good n s) : Good n (breaks s a b) := good_wire g
theorem good_joins {n : Nat} {s : St} {a b : Nat} (g : Good n s) : Good n (joins s a b) := by
  have g0 := good_breaks (a := a) (b := b) g
  have g1 := good_if (c := conn (breaks s a b) a b = 0) g0 (good_notices (a := a) (b := b) g0)
  have g2 := good_if (c := conn (if conn (breaks s a b) a b = 0 then breaks s a b else notices (breaks s a b) a b) b a = 0) g1 (good_notices (a := b) (b := a) g1)
  exact good_wire (good_conns g2)
end PN
end
section
/-! What is left of a list when some numbers are taken out one by one. Plain Lean. -/
namespace PN
open Ha05
section
variable {l : List (Nat × Nat)} {far : Nat × Nat → Bool}
def lostK (l : List (Nat × Nat)) (far : Nat × Nat → Bool) : List Nat := (l.filter far).map (·.1)
def rem (l : List (Nat × Nat)) (ks : List Nat) : List (Nat × Nat) := l.filter fun y => !(ks.contains y.1)
theorem rem_nil (l : List (Nat × Nat)) : rem l [] = l := by
  unfold rem
  rw [List.filter_eq_self]
  intro a _
  rfl
theorem rem_snoc (l : List (Nat × Nat)) (ks : List Nat) (k : Nat) : rem l (ks ++ [k]) = (rem l ks).filter fun y => y.1 != k := by
  unfold rem
  rw [List.filter_filter]
  apply List.filter_congr
  intro y _
  by_cases e : y.1 = k
  · simp [e]
  · simp [e]
theorem key_inj : ∀ {l : List (Nat × Nat)} {y z : Nat × Nat}, (l.map (·.1)).Nodup → y ∈ l → z ∈ l → y.1 = z.1 → y = z
  | a :: r, y, z, h, hy, hz, e => by
    have h : (a.1 :: r.map (·.1)).Nodup := h
    obtain ⟨h1, h2⟩ := List.nodup_cons.mp h
    rcases List.mem_cons.mp hy with ey | ey
    · rcases List.mem_cons.mp hz with ez | ez
      · rw [ey, ez]
      · exact absurd (List.mem_map.mpr ⟨z, ez, by rw [← e, ey]⟩) h1
    · rcases List.mem_cons.mp hz with ez | ez
      · exact absurd (List.mem_map.mpr ⟨y, ey, by rw [e, ez]⟩) h1
      · exact key_inj h2 ey ez e
theorem rem_all (nd : (l.map (·.1)).Nodup) : rem l (lostK l far) = l.filter fun y => !far y := by
  unfold rem
  apply List.filter_congr
  intro y hy
  congr 1
  cases e : far y with
  | true =>
    rw [List.contains_iff_mem.mpr]
    exact List.mem_map.mpr ⟨y, List.mem_filter.mpr ⟨hy, e⟩, rfl⟩
  | false =>
    cases q : (lostK l far).contains y.1 with
    | false => rfl
    | true =>
      obtain ⟨z, hz, ez⟩ := List.mem_map.mp (List.contains_iff_mem.mp q)
      obtain ⟨hz1, hz2⟩ := List.mem_filter.mp hz
      have := key_inj nd hz1 hy ez
      rw [this, e] at hz2
      cases hz2
theorem lost_nd (nd : (l.map (·.1)).Nodup) : (lostK l far).Nodup := (List.Sublist.map _ List.filter_sublist).nodup nd
theorem take_not {ks : List Nat} (nd : ks.Nodup) {i k : Nat} (h : ks[i]? = some k) : k ∉ ks.take i := fun m => by
  obtain ⟨j, hj⟩ := List.getElem?_of_mem m
  have l1 : j < i := by
    have := (List.getElem?_eq_some_iff.mp hj).1
    rw [List.length_take] at this
    omega
  rw [List.getElem?_take, if_pos l1] at hj
  obtain ⟨a1, a2⟩ := List.getElem?_eq_some_iff.mp h
  obtain ⟨b1, b2⟩ := List.getElem?_eq_some_iff.mp hj
  have := (List.getElem_inj nd).mp (b2.trans a2.symm)
  omega
/-- the next one is still there -/
theorem rem_there (nd : (l.map (·.1)).Nodup) {i k : Nat} (h : (lostK l far)[i]? = some k) : ∃ z, ((rem l ((lostK l far).take i)).find? fun y => y.1 == k) = some z := by
  obtain ⟨z, hz, ez⟩ := List.mem_map.mp (List.mem_of_getElem? h)
  have hz1 := (List.mem_filter.mp hz).1
  have hm : z ∈ rem l ((lostK l far).take i) := by
    refine List.mem_filter.mpr ⟨hz1, ?_⟩
    have n := take_not (lost_nd (far := far) nd) h
    rw [← ez] at n
    simp only [Bool.not_eq_true']
    cases q : ((lostK l far).take i).contains z.1 with
    | false => rfl
    | true => exact absurd (List.contains_iff_mem.mp q) n
  cases e : (rem l ((lostK l far).take i)).find? fun y => y.1 == k with
  | some z => exact ⟨z, rfl⟩
  | none => exact absurd (by simp [ez]) (List.find?_eq_none.mp e z hm)
end
/-- the numbers that a process is watched by differ -/
theorem count_nd : ∀ {l : List (Nat × Nat)}, (∀ k, sumW (cw k).wd l ≤ 1) → (l.map (·.1)).Nodup
  | [], _ => List.nodup_nil
  | a :: r, h => by
    show (a.1 :: r.map (·.1)).Nodup
    refine List.nodup_cons.mpr ⟨fun m => ?_, count_nd fun k => ?_⟩
    · obtain ⟨z, hz, ez⟩ := List.mem_map.mp m
      have h1 := h a.1
      rw [sumW_cons] at h1
      have h2 := cw_mem (k := a.1) hz ez
      have h3 : (cw a.1).wd a.1 = 1 := by simp [cw]
      omega
    · have h1 := h k
      rw [sumW_cons] at h1
      omega
theorem Good.dnd {n : Nat} {s : St} (g : Good n s) {p : Nat} (hp : Ok s p) : ((Ha05.proc s p).watched.map (·.1)).Nodup := by
  refine count_nd fun k => ?_
  have h3 := pw_le_qw (cw k) s.procs (Ha05.proc s p) (proc_mem hp)
  have h5 : sumW (cw k).wd (Ha05.proc s p).watched ≤ pw (cw k) (Ha05.proc s p) := by unfold pw; omega
  have h6 : aw (cw k) s.air + qw (cw k) s.procs ≤ 1 := g.un k
  omega
/-- links taken out one by one -/
def remL (l : List Link) (ks : List Nat) : List Link := l.filter fun y => !(ks.contains y.to)
theorem remL_nil (l : List Link) : remL l [] = l := by
  unfold remL
  rw [List.filter_eq_self]
  intro a _
  rfl
theorem remL_snoc (l : List Link) (ks : List Nat) (k : Nat) : remL l (ks ++ [k]) = (remL l ks).filter fun y => y.to != k := by
  unfold remL
  rw [List.filter_filter]
  apply List.filter_congr
  intro y _
  by_cases e : y.to = k
  · simp [e]
  · simp [e]
theorem to_inj {l : List Link} (h : l.Pairwise fun a b => a.to < b.to) {y z : Link} (hy : y ∈ l) (hz : z ∈ l) (e : y.to = z.to) : y = z := by
  obtain ⟨i, hi⟩ := List.getElem?_of_mem hy
  obtain ⟨j, hj⟩ := List.getElem?_of_mem hz
  obtain ⟨a1, a2⟩ := List.getElem?_eq_some_iff.mp hi
  obtain ⟨b1, b2⟩ := List.getElem?_eq_some_iff.mp hj
  have p := List.pairwise_iff_getElem.mp h
  by_cases c1 : i < j
  · have := p i j a1 b1 c1
    rw [a2, b2] at this
    omega
  · by_cases c2 : j < i
    · have := p j i b1 a1 c2
      rw [a2, b2] at this
      omega
    · have : i = j := by omega
      subst this
      rw [← a2, ← b2]
theorem remL_all {l : List Link} {far : Link → Bool} (h : l.Pairwise fun a b => a.to < b.to) : remL l ((l.filter far).map (·.to)) = l.filter fun y => !far y := by
  unfold remL
  apply List.filter_congr
  intro y hy
  congr 1
  cases e : far y with
  | true =>
    rw [List.contains_iff_mem.mpr]
    exact List.mem_map.mpr ⟨y, List.mem_filter.mpr ⟨hy, e⟩, rfl⟩
  | false =>
    cases q : ((l.filter far).map (·.to)).contains y.to with
    | false => rfl
    | true =>
      obtain ⟨z, hz, ez⟩ := List.mem_map.mp (List.contains_iff_mem.mp q)
      obtain ⟨hz1, hz2⟩ := List.mem_filter.mp hz
      have := to_inj h hz1 hy ez
      rw [this, e] at hz2
      cases hz2
theorem remL_sorted {l : List Link} {ks : List Nat} (h : l.Pairwise fun a b => a.to < b.to) : (remL l ks).Pairwise fun a b => a.to < b.to := h.filter _
theorem lostL_nd {l : List Link} {far : Link → Bool} (h : l.Pairwise fun a b => a.to < b.to) : ((l.filter far).map (·.to)).Nodup :=
  List.pairwise_map.mpr ((h.filter _).imp fun {a b} lt => by omega)
theorem remL_there {l : List Link} {far : Link → Bool} (h : l.Pairwise fun a b => a.to < b.to) {i : Nat} {y : Link} (hi : (l.filter far)[i]? = some y) : ((remL l (((l.filter far).map (·.to)).take i)).find? fun z => z.to == y.to) = some y := by
  have hy := List.mem_filter.mp (List.mem_of_getElem? hi)
  have hm : y ∈ remL l (((l.filter far).map (·.to)).take i) := by
    refine List.mem_filter.mpr ⟨hy.1, ?_⟩
    have n := take_not (lostL_nd (far := far) h) (i := i) (k := y.to) (by rw [List.getElem?_map, hi]; rfl)
    simp only [Bool.not_eq_true']
    cases q : (((l.filter far).map (·.to)).take i).contains y.to with
    | false => rfl
    | true => exact absurd (List.contains_iff_mem.mp q) n
  cases e : (remL l (((l.filter far).map (·.to)).take i)).find? fun z => z.to == y.to with
  | some z =>
    have e1 := List.mem_of_find?_eq_some e
    have e2 := List.find?_some (p := fun z : Link => z.to == y.to) e
    have e3 : z.to = y.to := by simpa using e2
    rw [to_inj (remL_sorted h) e1 hm e3]
  | none => exact absurd (by simp) (List.find?_eq_none.mp e y hm)
end PN
end
section
/-! A call adds two at most; a line's calls one by one. Plain Lean. -/
namespace PN
open Ha05
theorem Good.set {n : Nat} {s t : St} (W : Wf t) (h1 : tw one t ≤ n) (h2 : ∀ k, tw (cw k) t ≤ 1) (h3 : ∀ k, t.last < k → tw (cw k) t = 0) : Good n t := ⟨W, h1, h2, h3⟩
theorem good_send {n p q : Nat} {x : Sig} {s : St} (g : Good n s) (hp : Ok s p) (hq : Ok s q) (hx : ∀ k, (cw k).sg x = 0) : Good (n + 1) (send s p q x) := by
  refine ⟨wf_send g.wf hp hq, ?_, fun k => ?_, fun k hk => ?_⟩
  · have := tw_send one_ok (s := s) (p := p) (q := q) (x := x)
    have h1 : one.sg x = 1 := rfl
    have h2 : tw one s ≤ n := g.sz
    show tw one (send s p q x) ≤ n + 1
    omega
  · have := tw_send (cw_ok k) (s := s) (p := p) (q := q) (x := x)
    have h1 := hx k
    have h2 := g.un k
    omega
  · have := tw_send (cw_ok k) (s := s) (p := p) (q := q) (x := x)
    have h1 := hx k
    have h2 := g.nw k (by rw [← (keep_send (s := s) (p := p) (q := q) (x := x)).last]; exact hk)
    omega
/-- the process changes, and holds so much more -/
theorem good_set {n m p : Nat} {x : Proc} {s : St} (g : Good n s) (hp : Ok s p) (hx : PWf s.procs.length s.last x) (hn : x.node = (proc s p).node) (h1 : pw one x ≤ pw one (proc s p) + m) (h2 : ∀ k, pw (cw k) x ≤ pw (cw k) (proc s p)) : Good (n + m) (setProc s p x) := by
  refine ⟨wf_set g.wf hx hn, ?_, fun k => ?_, fun k hk => ?_⟩
  · have := tw_set (w := one) (x := x) hp
    have h3 : tw one s ≤ n := g.sz
    show tw one (setProc s p x) ≤ n + m
    omega
  · have := tw_set (w := cw k) (x := x) hp
    have h3 := g.un k
    have h4 := h2 k
    omega
  · have := tw_set (w := cw k) (x := x) hp
    have h3 := g.nw k hk
    have h4 := h2 k
    omega
theorem cw_pw (k : Nat) (x : Proc) : pw (cw k) x = sumW (cw k).wd x.watched := by
  have h1 : ∀ l : List (Nat × Nat), sumW (cw k).ww l = 0 := fun l => by
    induction l with
    | nil => rfl
    | cons y r ih => rw [sumW_cons, ih]; simp [cw]
  unfold pw
  rw [h1]
  simp [cw]
theorem good_more {n : Nat} {s : St} (g : Good n s) : Good n { s with last := s.last + 1 } :=
  ⟨⟨fun x hx => (g.wf.pr x hx).mono (Nat.le_refl _) (Nat.le_succ _), fun y hy => ⟨(g.wf.ar y hy).fr, (g.wf.ar y hy).to, (g.wf.ar y hy).far⟩, g.wf.wi, g.wf.few⟩, g.sz, g.un, fun k hk => g.nw k (by show s.last < k; have : s.last + 1 < k := hk; omega)⟩
def grownS (s : St) (x : Proc) : St := { s with procs := s.procs ++ [x] }
theorem nodeOf_grown {s : St} {x : Proc} {p : Nat} (h : Ok s p) : nodeOf (grownS s x) p = nodeOf s p := by
  have h1 : p - 1 < s.procs.length := by have := h.1; have := h.2; omega
  unfold nodeOf proc grownS
  simp only [List.getD]
  rw [List.getElem?_append_left h1]
theorem good_grown {n a : Nat} {s : St} (g : Good n s) (ha : 1 ≤ a ∧ a ≤ 3) (hl : s.procs.length < 12) : Good n (grownS s (fresh a)) := by
  have el : (grownS s (fresh a)).procs.length = s.procs.length + 1 := by simp [grownS]
  have et : ∀ w : Wt, tw w (grownS s (fresh a)) = tw w s := fun w => by
    show aw w s.air + qw w (s.procs ++ [fresh a]) = aw w s.air + qw w s.procs
    rw [qw_append]
    simp [qw, pw, fresh, sumW]
  refine ⟨⟨fun x hx => ?_, fun y hy => ?_, g.wf.wi, by rw [el]; omega⟩, by show tw one _ ≤ n; rw [et]; exact g.sz, fun k => by rw [et]; exact g.un k, fun k hk => by rw [et]; exact g.nw k hk⟩
  · rw [el]
    rcases List.mem_append.mp hx with z | z
    · exact (g.wf.pr x z).mono (Nat.le_succ _) (Nat.le_refl _)
    · rw [List.mem_singleton.mp z]
      exact pwf_fresh ha
  · have F := g.wf.ar y hy
    refine ⟨⟨F.fr.1, by rw [el]; exact Nat.le_succ_of_le F.fr.2⟩, ⟨F.to.1, by rw [el]; exact Nat.le_succ_of_le F.to.2⟩, fun z => ?_⟩
    rw [nodeOf_grown F.fr, nodeOf_grown F.to]
    exact F.far z
def setT (x : Proc) (b : Bool) : Proc := { x with traps := b }
theorem pw_with_one {x : Proc} {q k : Nat} : pw one (withLink x q k) ≤ pw one x + 1 := pw_with
theorem pw_with_cw {x : Proc} {q k j : Nat} : pw (cw j) (withLink x q k) ≤ pw (cw j) x := by rw [cw_pw, cw_pw]; exact Nat.le_refl _
theorem good_step {n : Nat} {s : St} (g : Good n s) (c : Call) : Good (n + 2) (step s c).1 := by
  have g2 : Good (n + 2) s := g.mono (by omega)
  cases c with
  | start a =>
    simp only [step]
    split
    · exact g2
    · split
      · exact g2
      · rename_i h1 h2
        have h2' : ¬ 12 ≤ s.procs.length := h2
        exact (good_grown g (by omega) (by omega)).mono (by omega)
  | child p how =>
    simp only [step]
    split
    · exact g2
    · split
      · exact g2
      · split
        · exact g2
        · rename_i h1 h2 h3
          have h3' : ¬ 12 ≤ s.procs.length := h3
          have op : Ok s p := isThere_iff.mp (by
            cases e : isThere s p
            · exact absurd (.inl e) h1
            · rfl)
          have na := g.wf.node op
          have gg := good_grown g na (by omega)
          have opg : Ok (grownS s (fresh (nodeOf s p))) p := ⟨op.1, by simp [grownS]; exact Nat.le_succ_of_le op.2⟩
          have oc : Ok (grownS s (fresh (nodeOf s p))) (s.procs.length + 1) := ⟨by omega, by simp [grownS]⟩
          have ep : proc (grownS s (fresh (nodeOf s p))) (s.procs.length + 1) = fresh (nodeOf s p) := by simp [proc, grownS, List.getD]
          have ncp : s.procs.length + 1 ≠ p := by have := op.2; omega
          unfold Ha05.child
          dsimp only
          split
          · have Pp := gg.wf.pwf opg
            have G1 := good_set (m := 1) gg opg (pwf_with (q := s.procs.length + 1) (k := 0) Pp ⟨oc.1, oc.2⟩) rfl pw_with_one (fun k => pw_with_cw)
            have oc1 : Ok (setProc (grownS s (fresh (nodeOf s p))) p (withLink (proc (grownS s (fresh (nodeOf s p))) p) (s.procs.length + 1) 0)) (s.procs.length + 1) := ok_set.mpr oc
            have ep1 : proc (setProc (grownS s (fresh (nodeOf s p))) p (withLink (proc (grownS s (fresh (nodeOf s p))) p) (s.procs.length + 1) 0)) (s.procs.length + 1) = fresh (nodeOf s p) := (proc_ne op.1 (by omega) ncp).trans ep
            have op1 : Ok (setProc (grownS s (fresh (nodeOf s p))) p (withLink (proc (grownS s (fresh (nodeOf s p))) p) (s.procs.length + 1) 0)) p := ok_set.mpr opg
            have Pc := G1.wf.pwf oc1
            rw [ep1] at Pc
            have G2 := good_set (m := 1) (x := withLink (fresh (nodeOf s p)) p 0) G1 oc1 (pwf_with Pc op1) (by rw [ep1]; rfl) (by rw [ep1]; exact pw_with_one) (fun k => by rw [ep1]; exact pw_with_cw)
            exact G2
          · split
            · have gm := good_more gg
              have opm : Ok { grownS s (fresh (nodeOf s p)) with last := s.last + 1 } p := opg
              have Pp := gm.wf.pwf opm
              have Pw0 := gg.wf.pwf opg
              let x1 : Proc := { proc { grownS s (fresh (nodeOf s p)) with last := s.last + 1 } p with watches := (proc { grownS s (fresh (nodeOf s p)) with last := s.last + 1 } p).watches ++ [(s.last + 1, s.procs.length + 1)] }
              have Px : PWf (grownS s (fresh (nodeOf s p))).procs.length (s.last + 1) x1 := by
                refine ⟨Pp.node, Pp.lsort, Pp.lok, fun y hy => ?_, ?_, Pp.dok, Pp.why⟩
                · rcases List.mem_append.mp hy with z | z
                  · exact Pp.wok y z
                  · rw [List.mem_singleton.mp z]
                    exact ⟨oc, Nat.le_refl _⟩
                · show (((proc (grownS s (fresh (nodeOf s p))) p).watches ++ [(s.last + 1, s.procs.length + 1)]).map (·.1)).Nodup
                  rw [List.map_append, List.nodup_append]
                  refine ⟨Pw0.wnd, by simp, fun a ha b hb e => ?_⟩
                  obtain ⟨y, hy, ey⟩ := List.mem_map.mp ha
                  have := (Pw0.wok y hy).2
                  have l1 : (grownS s (fresh (nodeOf s p))).last = s.last := rfl
                  simp at hb
                  omega
              have G1 : Good (n + 1) (setProc { grownS s (fresh (nodeOf s p)) with last := s.last + 1 } p x1) := good_set (m := 1) gm opm Px rfl (by rw [pw_one, pw_one]; simp [x1]; omega) (fun k => by rw [cw_pw, cw_pw]; exact Nat.le_refl _)
              have oc1 : Ok (setProc { grownS s (fresh (nodeOf s p)) with last := s.last + 1 } p x1) (s.procs.length + 1) := ok_set.mpr oc
              have ep1 : proc (setProc { grownS s (fresh (nodeOf s p)) with last := s.last + 1 } p x1) (s.procs.length + 1) = fresh (nodeOf s p) := (proc_ne op.1 (by omega) ncp).trans ep
              let x2 : Proc := { fresh (nodeOf s p) with watched := [(s.last + 1, p)] }
              have W2 : Wf (setProc (setProc { grownS s (fresh (nodeOf s p)) with last := s.last + 1 } p x1) (s.procs.length + 1) x2) := by
                refine wf_set G1.wf ?_ (by rw [ep1])
                have Pf := pwf_fresh (n := (setProc { grownS s (fresh (nodeOf s p)) with last := s.last + 1 } p x1).procs.length) (last := (setProc { grownS s (fresh (nodeOf s p)) with last := s.last + 1 } p x1).last) na
                refine ⟨Pf.node, Pf.lsort, Pf.lok, Pf.wok, Pf.wnd, fun y hy => ?_, Pf.why⟩
                have e : y = (s.last + 1, p) := List.mem_singleton.mp hy
                rw [e]
                exact (ok_set.mpr opm : Ok (setProc { grownS s (fresh (nodeOf s p)) with last := s.last + 1 } p x1) p)
              have tws : ∀ w : Wt, tw w (setProc (setProc { grownS s (fresh (nodeOf s p)) with last := s.last + 1 } p x1) (s.procs.length + 1) x2) = tw w (setProc { grownS s (fresh (nodeOf s p)) with last := s.last + 1 } p x1) + w.wd (s.last + 1) := fun w => by
                have h := tw_set (w := w) (x := x2) oc1
                rw [ep1] at h
                have e1 : pw w (fresh (nodeOf s p)) = 0 := by simp [pw, fresh, sumW]
                have e2 : pw w x2 = w.wd (s.last + 1) := by simp [pw, x2, fresh, sumW]
                omega
              have G2 : Good (n + 2) (setProc (setProc { grownS s (fresh (nodeOf s p)) with last := s.last + 1 } p x1) (s.procs.length + 1) x2) := by
                refine ⟨W2, ?_, fun k => ?_, fun k hk => ?_⟩
                · show tw one (setProc (setProc { grownS s (fresh (nodeOf s p)) with last := s.last + 1 } p x1) (s.procs.length + 1) x2) ≤ n + 2
                  rw [tws]
                  have := G1.sz
                  unfold Sml at this
                  show _ + 1 ≤ n + 2
                  omega
                · rw [tws]
                  by_cases e : k = s.last + 1
                  · have z := g.nw k (by omega)
                    have h1 := tw_set (w := cw k) (x := x1) opm
                    have h2 : pw (cw k) x1 = pw (cw k) (proc { grownS s (fresh (nodeOf s p)) with last := s.last + 1 } p) := by rw [cw_pw, cw_pw]
                    have h3 : tw (cw k) { grownS s (fresh (nodeOf s p)) with last := s.last + 1 } = tw (cw k) s := by
                      show aw (cw k) s.air + qw (cw k) (s.procs ++ [fresh (nodeOf s p)]) = aw (cw k) s.air + qw (cw k) s.procs
                      rw [qw_append]
                      simp [qw, pw, fresh, sumW]
                    have h4 : (cw k).wd (s.last + 1) ≤ 1 := by simp [cw]; split <;> omega
                    omega
                  · have h4 : (cw k).wd (s.last + 1) = 0 := by simp [cw]; omega
                    have := G1.un k
                    omega
                · rw [tws]
                  have hk' : s.last + 1 < k := hk
                  have h4 : (cw k).wd (s.last + 1) = 0 := by simp [cw]; omega
                  have := G1.nw k hk'
                  omega
              exact G2
            · exact gg.mono (by omega)
  | link p q =>
    simp only [step]
    split
    · exact g2
    · split
      · exact g2
      · split
        · exact g2
        · rename_i h1 h2 h3
          have op : Ok s p := isThere_iff.mp (by
            cases e : isThere s p
            · exact absurd (.inl e) h1
            · rfl)
          have oq : Ok s q := isThere_iff.mp (by
            cases e : isThere s q
            · exact absurd (.inr (.inl e)) h1
            · rfl)
          have G1 := good_set (m := 1) g op (pwf_with (q := q) (k := 0) (g.wf.pwf op) oq) rfl pw_with_one (fun k => pw_with_cw)
          have G2 := good_send (p := p) (q := q) (x := .link) G1 (ok_set.mpr op) (ok_set.mpr oq) (fun k => rfl)
          show Good (n + 2) (Ha05.links s p q)
          unfold Ha05.links
          split
          · split
            · exact g2
            · exact G2
          · exact G2
  | cut p q =>
    simp only [step]
    split
    · exact g2
    · split
      · exact g2
      · split
        · exact g2
        · rename_i h1 h2 h3
          have op : Ok s p := isThere_iff.mp (by
            cases e : isThere s p
            · exact absurd (.inl e) h1
            · rfl)
          have oq : Ok s q := isThere_iff.mp (by
            cases e : isThere s q
            · exact absurd (.inr (.inl e)) h1
            · rfl)
          show Good (n + 2) (Ha05.cuts s p q)
          unfold Ha05.cuts
          split
          · split
            · have gm := good_more g
              have opm : Ok { s with last := s.last + 1 } p := op
              have G1 := good_set (m := 1) gm opm (pwf_with (q := q) (k := s.last + 1) (gm.wf.pwf opm) oq) rfl pw_with_one (fun k => pw_with_cw)
              exact good_send (p := p) (q := q) (x := .cut (s.last + 1)) G1 (ok_set.mpr opm) (ok_set.mpr oq) (fun k => rfl)
            · exact g2
          · exact g2
  | watch p q =>
    simp only [step]
    split
    · exact g2
    · split
      · exact g2
      · split
        · exact g2
        · rename_i h1 h2 h3
          have op : Ok s p := isThere_iff.mp (by
            cases e : isThere s p
            · exact absurd (.inl e) h1
            · rfl)
          have oq : Ok s q := isThere_iff.mp (by
            cases e : isThere s q
            · exact absurd (.inr (.inl e)) h1
            · rfl)
          have gm := good_more g
          have opm : Ok { s with last := s.last + 1 } p := op
          have Pw0 := g.wf.pwf op
          let x1 : Proc := { proc s p with watches := (proc s p).watches ++ [(s.last + 1, q)] }
          have Px : PWf s.procs.length (s.last + 1) x1 := by
            have Pp := Pw0.mono (Nat.le_refl _) (Nat.le_succ s.last)
            refine ⟨Pp.node, Pp.lsort, Pp.lok, fun y hy => ?_, ?_, Pp.dok, Pp.why⟩
            · rcases List.mem_append.mp hy with z | z
              · exact Pp.wok y z
              · rw [List.mem_singleton.mp z]
                exact ⟨oq, Nat.le_refl _⟩
            · show (((proc s p).watches ++ [(s.last + 1, q)]).map (·.1)).Nodup
              rw [List.map_append, List.nodup_append]
              refine ⟨Pw0.wnd, by simp, fun a ha b hb e => ?_⟩
              obtain ⟨y, hy, ey⟩ := List.mem_map.mp ha
              have := (Pw0.wok y hy).2
              simp at hb
              omega
          have G1 : Good (n + 1) (setProc { s with last := s.last + 1 } p x1) := good_set (m := 1) gm opm Px rfl (by
            have e : proc { s with last := s.last + 1 } p = proc s p := rfl
            rw [e, pw_one, pw_one]; simp [x1]; omega) (fun k => by
            have e : proc { s with last := s.last + 1 } p = proc s p := rfl
            rw [e, cw_pw, cw_pw]; exact Nat.le_refl _)
          have oq1 : Ok (setProc { s with last := s.last + 1 } p x1) q := ok_set.mpr oq
          have op1 : Ok (setProc { s with last := s.last + 1 } p x1) p := ok_set.mpr opm
          show Good (n + 2) (send (setProc { s with last := s.last + 1 } p x1) p q (.watch (s.last + 1)))
          refine ⟨wf_send G1.wf op1 oq1, ?_, fun k => ?_, fun k hk => ?_⟩
          · have := tw_send one_ok (s := setProc { s with last := s.last + 1 } p x1) (p := p) (q := q) (x := .watch (s.last + 1))
            have h5 : one.sg (.watch (s.last + 1)) = 1 := rfl
            have h6 := G1.sz
            unfold Sml at h6
            show tw one _ ≤ n + 2
            omega
          · have h4 := tw_send (cw_ok k) (s := setProc { s with last := s.last + 1 } p x1) (p := p) (q := q) (x := .watch (s.last + 1))
            have h5 : (cw k).sg (.watch (s.last + 1)) ≤ 1 := by simp [cw]; split <;> omega
            by_cases e : k = s.last + 1
            · have z := g.nw k (by omega)
              have h7 := tw_set (w := cw k) (x := x1) opm
              have h8 : pw (cw k) x1 = pw (cw k) (proc { s with last := s.last + 1 } p) := by rw [cw_pw, cw_pw]; rfl
              have h9 : tw (cw k) { s with last := s.last + 1 } = tw (cw k) s := rfl
              omega
            · have h6 : (cw k).sg (.watch (s.last + 1)) = 0 := by simp [cw]; omega
              have := G1.un k
              omega
          · have h4 := tw_send (cw_ok k) (s := setProc { s with last := s.last + 1 } p x1) (p := p) (q := q) (x := .watch (s.last + 1))
            have hk' : s.last + 1 < k := by
              have : (send (setProc { s with last := s.last + 1 } p x1) p q (.watch (s.last + 1))).last = s.last + 1 := keep_send.last
              omega
            have h6 : (cw k).sg (.watch (s.last + 1)) = 0 := by simp [cw]; omega
            have := G1.nw k hk'
            omega
  | unwatch p k =>
    simp only [step]
    split
    · exact g2
    · split
      · exact g2
      · split
        · exact g2
        · rename_i h1 h2 _ y e
          split
          · exact g2
          · have op : Ok s p := isThere_iff.mp (by
              cases e : isThere s p
              · exact absurd e h1
              · rfl)
            have Pp := g.wf.pwf op
            have oq := (Pp.wok y (List.mem_of_find?_eq_some e)).1
            have G1 := good_set (m := 0) (x := setW (proc s p) ((proc s p).watches.filter fun z => z.1 != k)) g op (pwf_watches Pp) rfl (by
              have := List.length_filter_le (fun z : Nat × Nat => z.1 != k) (proc s p).watches
              rw [pw_one, pw_one]
              simp only [setW]
              omega) (fun j => by rw [cw_pw, cw_pw]; exact Nat.le_refl _)
            exact (good_send (p := p) (q := y.2) (x := .unwatch k) G1 (ok_set.mpr op) (ok_set.mpr oq) (fun k => rfl)).mono (by omega)
  | ends p why =>
    simp only [step]
    split
    · exact g2
    · split
      · exact g2
      · rename_i h1 h2
        have op : Ok s p := isThere_iff.mp (by
          cases e : isThere s p
          · exact absurd (.inl e) h1
          · rfl)
        exact (g.le (wf_dies why g.wf op) (fun w o => tw_dies o op) (keep_dies s p why).last).mono (by omega)
  | halt_ p q why =>
    simp only [step]
    split
    · exact g2
    · split
      · exact g2
      · split
        · exact g2
        · rename_i h1 h2 h3
          have op : Ok s p := isThere_iff.mp (by
            cases e : isThere s p
            · exact absurd (.inl e) h1
            · rfl)
          have oq : Ok s q := isThere_iff.mp (by
            cases e : isThere s q
            · exact absurd (.inr (.inl e)) h1
            · rfl)
          exact (good_send (p := p) (q := q) (x := .halt_ why) g op oq (fun k => rfl)).mono (by omega)
  | trap p y =>
    simp only [step]
    split
    · exact g2
    · split
      · exact g2
      · rename_i h1 h2
        have op : Ok s p := isThere_iff.mp (by
          cases e : isThere s p
          · exact absurd (.inl e) h1
          · rfl)
        have Pp := g.wf.pwf op
        exact (good_set (m := 0) (x := setT (proc s p) (y == 1)) g op ⟨Pp.node, Pp.lsort, Pp.lok, Pp.wok, Pp.wnd, Pp.dok, Pp.why⟩ rfl (by rw [pw_one, pw_one]; exact Nat.le_refl _) (fun k => by rw [cw_pw, cw_pw]; exact Nat.le_refl _)).mono (by omega)
  | say p q m =>
    simp only [step]
    split
    · exact g2
    · split
      · exact g2
      · split
        · exact g2
        · rename_i h1 h2 h3
          have op : Ok s p := isThere_iff.mp (by
            cases e : isThere s p
            · exact absurd (.inl e) h1
            · rfl)
          have oq : Ok s q := isThere_iff.mp (by
            cases e : isThere s q
            · exact absurd (.inr e) h1
            · rfl)
          exact (good_send (p := p) (q := q) (x := .word m) g op oq (fun k => rfl)).mono (by omega)
  | deliver p q =>
    simp only [step]
    split
    · exact g2
    · split
      · exact g2
      · rename_i i e
        show Good (n + 2) (delivers s p q)
        unfold delivers
        rw [e]
        dsimp only
        split
        · exact g2
        · rename_i y hy
          exact (good_comes g hy).mono (by omega)
  | turns m =>
    simp only [step]
    split
    · exact g2
    · exact (good_rounds m g).mono (by omega)
  | box p => exact g2
  | process p => exact g2
  | air => exact g2
  | break_ a b =>
    simp only [step]
    split
    · exact g2
    · split
      · exact g2
      · exact (good_breaks g).mono (by omega)
  | notice a b =>
    simp only [step]
    split
    · exact g2
    · split
      · exact g2
      · exact (good_notices g).mono (by omega)
  | join a b =>
    simp only [step]
    split
    · exact g2
    · exact (good_joins g).mono (by omega)
  | wires => exact g2
theorem good_init : Good 0 init := by
  refine ⟨⟨fun x hx => (by cases hx), fun y hy => (by cases hy), ⟨_, _, _, rfl⟩, by decide⟩, ?_, fun k => ?_, fun k _ => ?_⟩
  · show tw one init ≤ 0
    decide
  · show aw (cw k) [] + qw (cw k) [] ≤ 1
    simp [aw, qw]
  · show aw (cw k) [] + qw (cw k) [] = 0
    simp [aw, qw]
end PN
end
section
/-! A line's numbers read call by call. Plain Lean. -/
namespace PN
open Ha05
def cnts : List Nat := [1, 2, 2, 2, 2, 2, 2, 3, 2, 3, 2, 1, 1, 1, 0, 2, 2, 2, 0]
theorem shape_is {p : Int} {n k : Nat} (h : PyHa05.shape p = some (n, k)) : ∃ j : Nat, p = (j : Int) ∧ cnts[j]? = some n ∧ k = 0 := by
  unfold PyHa05.shape at h
  by_cases e0 : p = 0
  · rw [if_pos e0] at h; cases h; exact ⟨0, e0, rfl, rfl⟩
  rw [if_neg e0] at h
  by_cases e1 : p = 1
  · rw [if_pos e1] at h; cases h; exact ⟨1, e1, rfl, rfl⟩
  rw [if_neg e1] at h
  by_cases e2 : p = 2
  · rw [if_pos e2] at h; cases h; exact ⟨2, e2, rfl, rfl⟩
  rw [if_neg e2] at h
  by_cases e3 : p = 3
  · rw [if_pos e3] at h; cases h; exact ⟨3, e3, rfl, rfl⟩
  rw [if_neg e3] at h
  by_cases e4 : p = 4
  · rw [if_pos e4] at h; cases h; exact ⟨4, e4, rfl, rfl⟩
  rw [if_neg e4] at h
  by_cases e5 : p = 5
  · rw [if_pos e5] at h; cases h; exact ⟨5, e5, rfl, rfl⟩
  rw [if_neg e5] at h
  by_cases e6 : p = 6
  · rw [if_pos e6] at h; cases h; exact ⟨6, e6, rfl, rfl⟩
  rw [if_neg e6] at h
  by_cases e7 : p = 7
  · rw [if_pos e7] at h; cases h; exact ⟨7, e7, rfl, rfl⟩
  rw [if_neg e7] at h
  by_cases e8 : p = 8
  · rw [if_pos e8] at h; cases h; exact ⟨8, e8, rfl, rfl⟩
  rw [if_neg e8] at h
  by_cases e9 : p = 9
  · rw [if_pos e9] at h; cases h; exact ⟨9, e9, rfl, rfl⟩
  rw [if_neg e9] at h
  by_cases e10 : p = 10
  · rw [if_pos e10] at h; cases h; exact ⟨10, e10, rfl, rfl⟩
  rw [if_neg e10] at h
  by_cases e11 : p = 11
  · rw [if_pos e11] at h; cases h; exact ⟨11, e11, rfl, rfl⟩
  rw [if_neg e11] at h
  by_cases e12 : p = 12
  · rw [if_pos e12] at h; cases h; exact ⟨12, e12, rfl, rfl⟩
  rw [if_neg e12] at h
  by_cases e13 : p = 13
  · rw [if_pos e13] at h; cases h; exact ⟨13, e13, rfl, rfl⟩
  rw [if_neg e13] at h
  by_cases e14 : p = 14
  · rw [if_pos e14] at h; cases h; exact ⟨14, e14, rfl, rfl⟩
  rw [if_neg e14] at h
  by_cases e15 : p = 15
  · rw [if_pos e15] at h; cases h; exact ⟨15, e15, rfl, rfl⟩
  rw [if_neg e15] at h
  by_cases e16 : p = 16
  · rw [if_pos e16] at h; cases h; exact ⟨16, e16, rfl, rfl⟩
  rw [if_neg e16] at h
  by_cases e17 : p = 17
  · rw [if_pos e17] at h; cases h; exact ⟨17, e17, rfl, rfl⟩
  rw [if_neg e17] at h
  by_cases e18 : p = 18
  · rw [if_pos e18] at h; cases h; exact ⟨18, e18, rfl, rfl⟩
  rw [if_neg e18] at h
  cases h
theorem flat_step {f : Nat} {p : Int} {r : List Int} {cs : List (List (List Int))} (h : PyFlat.calls PyHa05.shape f (p :: r) = some cs) :
    ∃ (j n f' : Nat) (cs' : List (List (List Int))), p = (j : Int) ∧ cnts[j]? = some n ∧ n ≤ r.length ∧ PyFlat.calls PyHa05.shape f' (r.drop n) = some cs' ∧ cs = [p :: r.take n] :: cs' := by
  cases f with
  | zero => cases h
  | succ f =>
    unfold PyFlat.calls at h
    cases e : PyFlat.call PyHa05.shape (p :: r) with
    | none => rw [e] at h; cases h
    | some ct =>
      obtain ⟨c, t⟩ := ct
      rw [e] at h
      unfold PyFlat.call at e
      dsimp only at e
      cases es : PyHa05.shape p with
      | none => rw [es] at e; cases e
      | some nk =>
        obtain ⟨n, k⟩ := nk
        obtain ⟨j, ej, en, ek⟩ := shape_is es
        subst ek
        rw [es] at e
        have e : (if r.length < n then none else some ([p :: r.take n], r.drop n)) = some (c, t) := e
        by_cases lt : r.length < n
        · rw [if_pos lt] at e; cases e
        · rw [if_neg lt] at e
          cases e
          have h : (match PyFlat.calls PyHa05.shape f (r.drop n) with
            | none => none
            | some cs => some ([p :: r.take n] :: cs)) = some cs := h
          cases e2 : PyFlat.calls PyHa05.shape f (r.drop n) with
          | none => rw [e2] at h; cases h
          | some cs' =>
            rw [e2] at h
            exact ⟨j, n, f, cs', ej, en, by omega, e2, (Option.some.inj h).symm⟩
theorem flat_nil {f : Nat} {cs : List (List (List Int))} (h : PyFlat.calls PyHa05.shape f [] = some cs) : cs = [] := by
  cases f <;> exact (Option.some.inj h).symm
theorem whole_call : ∀ (j : Nat) {n : Nat} {args : List Int}, cnts[j]? = some n → args.length = n → PyHa05.whole [(j : Int) :: args] = [(j : Int) :: args]
  | 0, n, args, h, hl => by
    cases h
    match args, hl with
    | [a], _ => rfl
  | 1, n, args, h, hl => by
    cases h
    match args, hl with
    | [a, b], _ => rfl
  | 2, n, args, h, hl => by
    cases h
    match args, hl with
    | [a, b], _ => rfl
  | 3, n, args, h, hl => by
    cases h
    match args, hl with
    | [a, b], _ => rfl
  | 4, n, args, h, hl => by
    cases h
    match args, hl with
    | [a, b], _ => rfl
  | 5, n, args, h, hl => by
    cases h
    match args, hl with
    | [a, b], _ => rfl
  | 6, n, args, h, hl => by
    cases h
    match args, hl with
    | [a, b], _ => rfl
  | 7, n, args, h, hl => by
    cases h
    match args, hl with
    | [a, b, c], _ => rfl
  | 8, n, args, h, hl => by
    cases h
    match args, hl with
    | [a, b], _ => rfl
  | 9, n, args, h, hl => by
    cases h
    match args, hl with
    | [a, b, c], _ => rfl
  | 10, n, args, h, hl => by
    cases h
    match args, hl with
    | [a, b], _ => rfl
  | 11, n, args, h, hl => by
    cases h
    match args, hl with
    | [a], _ => rfl
  | 12, n, args, h, hl => by
    cases h
    match args, hl with
    | [a], _ => rfl
  | 13, n, args, h, hl => by
    cases h
    match args, hl with
    | [a], _ => rfl
  | 14, n, args, h, hl => by
    cases h
    match args, hl with
    | [], _ => rfl
  | 15, n, args, h, hl => by
    cases h
    match args, hl with
    | [a, b], _ => rfl
  | 16, n, args, h, hl => by
    cases h
    match args, hl with
    | [a, b], _ => rfl
  | 17, n, args, h, hl => by
    cases h
    match args, hl with
    | [a, b], _ => rfl
  | 18, n, args, h, hl => by
    cases h
    match args, hl with
    | [], _ => rfl
  | j + 19, n, args, h, hl => by simp [cnts] at h
theorem map_whole : ∀ (m f : Nat) {l : List Int} {cs : List (List (List Int))}, l.length ≤ m → PyFlat.calls PyHa05.shape f l = some cs → cs.map PyHa05.whole = cs
  | _, _, [], cs, _, h => by rw [flat_nil h]; rfl
  | 0, _, p :: r, cs, hm, h => by simp at hm
  | m + 1, f, p :: r, cs, hm, h => by
    obtain ⟨j, n, f', cs', ej, en, ln, h', ec⟩ := flat_step h
    subst ec ej
    rw [List.map_cons, whole_call j en (by rw [List.length_take]; omega), map_whole m f' (by rw [List.length_drop]; simp at hm; omega) h']
theorem if_all {α β : Type} {b : Bool} {X : Option β} {y : β} (h : (if b = false then none else X) = some y) : b = true ∧ X = some y := by
  cases b with
  | true => exact ⟨rfl, h⟩
  | false => cases h
theorem all_all {f : Int → Bool} {p : Int} {args : List Int} (h : ([p :: args].all fun r => r.all f) = true) : ∀ x ∈ args, f x = true := by
  have h1 := List.all_eq_true.mp h (p :: args) (List.mem_singleton.mpr rfl)
  exact fun x hx => List.all_eq_true.mp h1 x (List.mem_cons_of_mem _ hx)
theorem and_left {a b : Bool} (h : (a && b) = true) : a = true := by
  rw [Bool.and_eq_true] at h
  exact h.1
theorem nat_pos {x : Int} (h : Ha05Neutral.nat x = true) : 0 ≤ x := of_decide_eq_true (and_left h)
theorem callOf_some {l : List (List Int)} {cl : Ha05.Call} (h : Ha05Neutral.callOf l = some cl) : (l.all fun r => r.all Ha05Neutral.nat) = true ∧ Ha05Neutral.callIn (l.map fun r => r.map Int.toNat) = some cl := if_all (α := Nat) h
theorem step_some {l : List (List Int)} {cl : Ha05.Call} (h : Ha05Neutral.callOf l = some cl) (s : Ha05.St) : Ha05Neutral.step s l = Ha05.step s cl := by
  show (match Ha05Neutral.callOf l with
    | none => (s, [])
    | some x => Ha05.step s x) = _
  rw [h]
/-- a call that is asked -/
theorem asked_call {j : Nat} {args : List Int} (h : Ha05Neutral.asked1 [(j : Int) :: args] = true) : ∃ cl, Ha05Neutral.callIn [j :: args.map Int.toNat] = some cl ∧ (∀ s, Ha05Neutral.step s [(j : Int) :: args] = Ha05.step s cl) ∧ ∀ x ∈ args, 0 ≤ x := by
  obtain ⟨cl, e⟩ := Option.isSome_iff_exists.mp (show (Ha05Neutral.callOf [(j : Int) :: args]).isSome = true from h)
  obtain ⟨e1, e2⟩ := callOf_some e
  refine ⟨cl, ?_, step_some e, fun x hx => nat_pos (all_all e1 x hx)⟩
  have e3 : Ha05Neutral.callIn [(((j : Int)).toNat) :: args.map Int.toNat] = some cl := e2
  rw [Int.toNat_natCast] at e3
  exact e3
theorem callIn_far (j : Nat) (args : List Nat) : Ha05Neutral.callIn [(j + 19) :: args] = none := by
  rcases args with _ | ⟨a, _ | ⟨b, _ | ⟨d, _ | ⟨e, t⟩⟩⟩⟩ <;> rfl
theorem callIn_long (a b d e : Nat) (t : List Nat) : ∀ j : Nat, Ha05Neutral.callIn [j :: a :: b :: d :: e :: t] = none
  | 0 => rfl
  | 1 => rfl
  | 2 => rfl
  | 3 => rfl
  | 4 => rfl
  | 5 => rfl
  | 6 => rfl
  | 7 => rfl
  | 8 => rfl
  | 9 => rfl
  | 10 => rfl
  | 11 => rfl
  | 12 => rfl
  | 13 => rfl
  | 14 => rfl
  | 15 => rfl
  | 16 => rfl
  | 17 => rfl
  | 18 => rfl
  | j + 19 => rfl
theorem callIn_bound {j : Nat} {args : List Nat} {cl : Ha05.Call} (h : Ha05Neutral.callIn [j :: args] = some cl) : j < 19 ∧ args.length ≤ 3 := by
  constructor
  · by_cases c : j < 19
    · exact c
    · obtain ⟨i, e⟩ : ∃ i, j = i + 19 := ⟨j - 19, by omega⟩
      rw [e, callIn_far] at h
      cases h
  · rcases args with _ | ⟨a, _ | ⟨b, _ | ⟨d, _ | ⟨e, t⟩⟩⟩⟩
    · simp
    · simp
    · simp
    · simp
    · rw [callIn_long] at h
      cases h
theorem toNat_ints {l : List Int} (h : ∀ x ∈ l, 0 ≤ x) : Ha05.ints (l.map Int.toNat) = l := by
  unfold Ha05.ints
  rw [List.map_map]
  conv => rhs; rw [← List.map_id l]
  apply List.map_congr_left
  intro x hx
  show ((x.toNat : Nat) : Int) = x
  have := h x hx
  omega
theorem told_cons (x : List Int) (l : List (List Int)) : PyFlat.told (x :: l) = ((x.length : Int) :: x) ++ PyFlat.told l := by
  unfold PyFlat.told
  rw [List.flatMap_cons]
end PN
end
section
set_option maxRecDepth 100000
set_option maxHeartbeats 2000000
/-! Rules of this text's own: a list extended by a tuple; a dict displayed with tuples as keys; a call of what a table holds. -/
namespace PN
open PySem PySem.Spec PyProof.Rows L2

theorem meets_extT (l : Addr) (items : Array Value) (n : Nat) (b : Addr) (items2 : Array Value) (n2 : Nat) (dd : Option Addr) (sl : Array (Option Value))
    (hs0 : ¬(!items.isEmpty && Builtin.List.listTooLong (items.size + items2.size)) = true) (hs1 : items.size ≤ sizeLine) (hs2 : items.size + items2.size ≤ sizeLine + 1) :
    Meets (Builtin.«list.extend» ⟨[.ref l, .ref b], []⟩) (fun _ R s => s.heap.get? l = some { cls := .type "list", dict := none, data := .seq items n, slots := #[] } ∧
      s.heap.get? b = some { cls := .type "tuple", dict := dd, data := .seq items2 n2, slots := sl } ∧ R (.ok (.ret Value.none)) { s with heap := s.heap.update l (Obj.mapSeq fun x => x ++ items2), toks := s.toks }) :=
  .of_wp fun prog w A R s h => by
    obtain ⟨hp, g, d, tk, os⟩ := s
    obtain ⟨hl, hb, h⟩ := h
    have f1 := AutoSeq1.idx_int
    have f2 := F.sub_tuple_tuple
    have f3 := F.sub_list_list
    have f4 := F.sub_tuple_list
    have f5 := F.sub_list_tuple
    have hz' : (items ++ items2).size ≤ sizeLine + 1 := (Array.size_append ▸ hs2)
    wp_walk using (wpAny_updateSeq hl rfl (hz := hs1) (_hz' := hz')), AutoSeq1.wpAny_loadPart' hl, AutoSeq1.wpAny_loadPart' hb
    exact ⟨_, rfl, h⟩
section
variable {X : Cx}
def rExtT : V → List V → Hp → VK → Prop := fun x vs H Q => ∃ l b xs zs, x = .ref l ∧ vs = [.ref b] ∧ H l = some (.lst xs) ∧ H b = some (.tup zs) ∧ xs.length + zs.length ≤ sizeLine ∧ Q .non (upd H l (.lst (xs ++ zs)))
theorem mt_extT : MtM X "list.extend" rExtT := by
  intro pins s σ H x vs v us Q I rx rv h
  obtain ⟨l, b, xs, zs, rfl, rfl, hH, hB, hz, q⟩ := h
  cases rx
  obtain ⟨u, rfl, ru⟩ := rv.one
  cases ru
  obtain ⟨z, its, n, r, hl, e⟩ := I.lstM hH
  obtain ⟨z2, its2, r2, o2, e2, c2, n2, d2⟩ := I.hok b _ hB
  obtain ⟨oc, od, odat, osl⟩ := o2
  have c2' : oc = .type "tuple" := c2
  have d2' : odat = .seq its2.toArray n2 := d2
  subst c2' d2'
  have hl2 : zs.length = its2.length := r2.length
  have s1 : its.toArray.size + its2.toArray.size ≤ sizeLine := by
    simp only [List.size_toArray]
    omega
  have nl : ¬ (!its.toArray.isEmpty && Builtin.List.listTooLong (its.toArray.size + its2.toArray.size)) = true := fun hh => by
    rw [notLongL s1, Bool.and_false] at hh
    cases hh
  refine call_meets F.slot_list_extend ⟨_, e, rfl⟩ F.entry_list_extend (F.args_list_extend_2 _ _)
    (meets_extT l its.toArray n b its2.toArray n2 od osl nl (by simp only [List.size_toArray]; omega) (by omega)) ⟨e, e2, ?_⟩
  exact ⟨.non, _, I.lset (its' := its ++ its2) hH e (by simp) (r.append r2) (by simp only [List.length_append]; omega), rfl, q⟩
end

/-! ### {(1, 2): x, ..} -/
abbrev PairT (H : Hp) : List (V × V) → List (List Key × V) → Prop := Paired fun p q => ∃ b, p.1 = .ref b ∧ H b = some (.tup (q.1.map kV)) ∧ p.2 = q.2
def mergeT (acc more : List (List Key × V)) : List (List Key × V) := more.foldl (fun a kv => putK a kv.1 kv.2) acc
section
variable {X : Cx} {pins : List (Addr × Obj)} {σ : L2.St}
theorem store_allT {d : Addr} (hu : X.A.units + 1 < cLine) {E : Value → Shared → Prop} : ∀ (vs : List (Value × Value)) (ps : List (V × V)) (kvs acc : List (List Key × V)) (H : Hp) (s : Shared) (Q : PUnit → Shared → Prop),
    VV ps vs → PairT H ps kvs → Inv X pins σ H s → H d = some (.dT acc) → acc.length + kvs.length ≤ sizeLine →
    (∀ s', Inv X pins σ (upd H d (.dT (mergeT acc kvs))) s' → Q PUnit.unit s') →
    wpAny (model X.prog X.w) X.A (forIn vs PUnit.unit fun (x : Value × Value) (_ : PUnit) => (do dictSet d x.1 x.2; pure (ForInStep.yield PUnit.unit) : Sem (ForInStep PUnit))) Q E s
  | _, _, _, acc, H, s, Q, .nil, .nil, I, hd, _, hQ => by
    rw [List.forIn_nil]
    refine wpAny_pure (hQ s ?_)
    have e : upd H d (.dT (mergeT acc [])) = H := by
      funext b
      unfold upd
      by_cases eb : b = d
      · rw [if_pos eb, eb, hd]; rfl
      · rw [if_neg eb]
    rw [e]
    exact I
  | _, _, _, acc, H, s, Q, .cons (a := p) (b := v) (l₁ := ps) (l₂ := vs) r rs, .cons (b := kv) (l₂ := kvs) c cs, I, hd, hz, hQ => by
    obtain ⟨b, e1, e2, e3⟩ := c
    rw [List.length_cons] at hz
    obtain ⟨rk, rv⟩ := r
    rw [e1] at rk
    rw [e3] at rv
    have rk' : v.1 = Value.ref b := rk
    rw [List.forIn_cons, rk']
    obtain ⟨z, hm, xs, rel, dd⟩ := dt_of I.hok hd
    have hzx : xs.length ≤ sizeLine := by rw [← Paired.length rel]; exact z
    have hl := length_putK acc kv.1 kv.2
    refine wpAny_bind (wpAny_bind (wpAny_dictSet_heap (knd := tupleKind (mixKind X.prog X.w)) (hsz := hzx) (show (tupleKind (mixKind X.prog X.w)).room X.A from Nat.lt_of_succ_lt hu) (key_of I.hok e2) dd fun h' dd' hs => wpAny_pure ?_))
    obtain ⟨q, es, ep, hq, h2, h3, h4, _, h5⟩ := dd'
    have keep : ∀ c ys, H c = some (.tup ys) → upd H d (.dT (putK acc kv.1 kv.2)) c = some (.tup ys) := fun c ys ec => by
      rw [upd_ne (ne_of ec hd (fun z => nomatch z))]
      exact ec
    have I1 := d_write (t' := s.toks + (tupleKind (mixKind X.prog X.w)).draws kv.1) (ob := .dT (putK acc kv.1 kv.2)) I (by rw [hd]; exact True.intro) hs ⟨q, hq⟩
      ⟨by omega, hm, _, (rel.put kv.1 e2 rv).keeps keep, q, es, ep, hq, h2, h3, h4, h5⟩
    have cs' : PairT (upd H d (.dT (putK acc kv.1 kv.2))) ps kvs := cs.mono fun _ _ ⟨b, f1, f2, f3⟩ => ⟨b, f1, keep _ _ f2, f3⟩
    refine store_allT hu vs ps kvs (putK acc kv.1 kv.2) _ _ Q rs cs' I1 upd_same (by omega) fun s' I' => hQ s' ?_
    rw [upd_upd] at I'
    exact I'
def tDispT (trs : List (TE × TE)) : TE := fun σ H Q => ∀ p, H p = none → tPairs trs σ (upd H p (.dT [])) fun ps H2 => H2 p = some (.dT []) ∧ ∃ kvs : List (List Key × V), PairT H2 ps kvs ∧ kvs.length ≤ 15 ∧ Q (.ref p) (upd H2 p (.dT (mergeT [] kvs)))
theorem pe_dispT {pos : Pos} {keys : List (Option Expr)} {values : List Expr} {trs : List (TE × TE)} (hu : X.A.units + 1 < cLine) (h : PPs X pos keys values trs) (hall : keys.all (·.isSome) = true) (hl : keys.length = values.length) (h0 : keys ≠ [])
    (h15 : keys.length ≤ 15) : PE X (.Dict keys values pos) (tDispT trs) := by
  refine ⟨fun pins s σ H Q I q => ?_⟩
  have hn := pairTrees_length keys values X.env pos hall hl
  have hne : pairTrees keys values X.env pos ≠ [] := fun he => by
    rw [he] at hn
    exact h0 (List.length_eq_zero_iff.mp hn.symm)
  rw [arm_eval_Dict, zip_pairTrees keys values X.env pos hall hl, dictDisplay_pairs _ hne (by omega)]
  refine wpAny_bind (wpAny_standAt (wpAny_bind ?_))
  unfold subDict
  refine wpAny_bind (wpAny_alloc ?_)
  refine wpAny_bind (wpAny_holding ?_)
  rw [if_pos (by omega)]
  have hnew := I.hok.fresh (Nat.le_refl s.heap.objs.size)
  have I1 := I.laid (a := s.heap.objs.size) (o := .dT []) (h' := s.heap.push { cls := .type "dict", data := .dict #[] }) (t' := s.toks) (fun _ _ q => Heap.get?_push_of_some _ q) (Nat.le_refl _) (dt_empty s.heap I.big)
  refine wpAny_bind (thn (h.run pins _ σ _ _ I1 (q _ hnew)) fun ws s2 ⟨ps, H2, I2, rel, e, kvs, pk, lk, q2⟩ => ?_)
  refine wpAny_holding ?_
  refine wpAny_bind (store_allT hu ws ps kvs [] H2 s2 _ rel pk I2 e (by rw [sizeLine_eq]; simp; omega) fun s' I' => ?_)
  exact wpAny_pure (wpAny_pure (wpAny_pure ⟨.ref s.heap.objs.size, _, I', rfl, q2⟩))
end
/-! ### a call of what a slot holds, out of a table of defs -/
section
variable {X : Cx} {k i : Nat} {x : Str} {p pos : Pos} {e : Expr} {es : List Expr} {t : TA}
def tCallR (i : Nat) (S : Addr → Sp → Prop) (t : TA) : TE := fun σ H Q => ∃ f sp, σ[i]? = some (some (.ref f)) ∧ S f sp ∧ t σ H fun vs H1 => sp vs H1 Q E0
theorem pe_callR {S : Addr → Sp → Prop} (A : ∀ f sp, S f sp → Held X.prog X.w X.K X.mg X.base k f sp) (hr : Room k X.A) (hN : X.N[i]? = some x) (hv : Vis X.env.scope x) (ha : PA X (e :: es) t)
    (hdb : (x == ("__debug__" : Str)) = false := by decide) (hcd : (x == ("__classdict__" : Str)) = false := by decide)
    (he : starEach (e :: es) X.env = (false, eval e X.env) :: starEach es X.env := by rfl) (hpl : (backTo pos (starEach es X.env)).any (·.1) = false := by rfl) : PE X (.Call (.Name x p) (e :: es) [] pos) (tCallR i S t) := by
  refine ⟨fun pins s σ H Q I ⟨f, sp, hs, hS, ht⟩ => ?_⟩
  classical
  refine (pe_callA (S := fun g => if g = f then some sp else none) (fun g sp' hg => ?_) hr hN hv ha hdb hcd he hpl).run pins s σ H Q I ⟨f, sp, hs, if_pos rfl, ht⟩
  by_cases eg : g = f
  · rw [if_pos eg] at hg
    cases hg
    exact eg ▸ A f sp hS
  · rw [if_neg eg] at hg
    cases hg
end
end PN
end
section
set_option maxRecDepth 100000
set_option maxHeartbeats 2000000
/-! How a state of the specification lies in the heap. -/
namespace PN
open PySem L2
open Ha05 (Proc Fly Sig Link Note proc setProc nodeOf wire conn sigTold flag)

def ni (n : Nat) : V := .int (n : Int)
def kvW (l : List (Nat × Nat)) : List (Key × V) := l.map fun y => (Sum.inl (y.1 : Int), ni y.2)
def kvL (l : List Link) : List (Key × V) := l.map fun y => (Sum.inl (y.to : Int), ni y.cutting)
def SigAt (H : Hp) (g : Addr) (x : Sig) : Prop := H g = some (.tup ((sigTold x).map ni))
def FlyAt (H : Hp) (y : Fly) (v : V) : Prop := ∃ t g, v = .ref t ∧ H t = some (.tup [ni y.from_, ni y.to, .ref g, ni y.by_]) ∧ SigAt H g y.what
def NoteAt (H : Hp) (n : Note) (v : V) : Prop := ∃ t, v = .ref t ∧ H t = some (.tup [ni n.what, ni n.who, ni n.n])
/-- tuples stand -/
def Tups (H H' : Hp) : Prop := ∀ b xs, H b = some (.tup xs) → H' b = some (.tup xs)
theorem Tups.refl (H : Hp) : Tups H H := fun _ _ h => h
theorem Tups.trans {H H1 H2 : Hp} (a : Tups H H1) (b : Tups H1 H2) : Tups H H2 := fun x ys h => b x ys (a x ys h)
theorem FlyAt.mono {H H' : Hp} (t : Tups H H') {y : Fly} {v : V} (h : FlyAt H y v) : FlyAt H' y v := by
  obtain ⟨a, g, e, h1, h2⟩ := h
  exact ⟨a, g, e, t _ _ h1, t _ _ h2⟩
theorem NoteAt.mono {H H' : Hp} (t : Tups H H') {n : Note} {v : V} (h : NoteAt H n v) : NoteAt H' n v := by
  obtain ⟨a, e, h1⟩ := h
  exact ⟨a, e, t _ _ h1⟩
theorem flies_mono {H H' : Hp} (t : Tups H H') {l : List Fly} {vs : List V} (h : Paired (FlyAt H) l vs) : Paired (FlyAt H') l vs := h.mono fun _ _ => FlyAt.mono t
theorem notes_mono {H H' : Hp} (t : Tups H H') {l : List Note} {vs : List V} (h : Paired (NoteAt H) l vs) : Paired (NoteAt H') l vs := h.mono fun _ _ => NoteAt.mono t

structure Cs where
  p : Addr
  w : Addr
  calls : Addr
  counts : Addr
  live : Addr
  fs : List Addr
  gs : List Addr
structure PL where
  a : Addr
  li : Addr
  wa : Addr
  wd : Addr
  bx : Addr
def PL.ads (l : PL) : List Addr := [l.a, l.li, l.wa, l.wd, l.bx]
structure Lay where
  w : Addr
  pr : Addr
  ai : Addr
  cn : Addr
  br : Addr
  ps : List PL
def Lay.ads (L : Lay) : List Addr := L.w :: L.pr :: L.ai :: L.cn :: L.br :: L.ps.flatMap PL.ads
def Lay.setp (L : Lay) (p : Nat) (l : PL) : Lay := { L with ps := L.ps.set (p - 1) l }
def pF (l : PL) (x : Proc) : List (Str × V) := [("node", ni x.node), ("lives", .bl x.lives), ("why", ni x.why), ("traps", ni (flag x.traps)), ("links", .ref l.li), ("watches", .ref l.wa), ("watched_by", .ref l.wd), ("box", .ref l.bx)]
def wF (L : Lay) (s : Ha05.St) : List (Str × V) := [("processes", .ref L.pr), ("air", .ref L.ai), ("last_number", ni s.last), ("connections", .ref L.cn), ("last_connection", ni s.conns), ("broken", .ref L.br)]
def kk (a b : Nat) : List Key := [Sum.inl (a : Int), Sum.inl (b : Int)]
def kvC (s : Ha05.St) : List (List Key × V) := [(kk 1 2, ni (conn s 1 2)), (kk 2 1, ni (conn s 2 1)), (kk 1 3, ni (conn s 1 3)), (kk 3 1, ni (conn s 3 1)), (kk 2 3, ni (conn s 2 3)), (kk 3 2, ni (conn s 3 2))]
def kvB (s : Ha05.St) : List (List Key × V) := [(kk 1 2, .bl (wire s 1 2).broken), (kk 1 3, .bl (wire s 1 3).broken), (kk 2 3, .bl (wire s 2 3).broken)]
structure PRep (c : Cs) (H : Hp) (l : PL) (x : Proc) : Prop where
  ins : ∃ dx, H l.a = some (.ins c.p dx (pF l x))
  li : ∃ kvs, H l.li = some (.dK kvs) ∧ kvs.Perm (kvL x.links)
  wa : H l.wa = some (.dK (kvW x.watches))
  wd : H l.wd = some (.dK (kvW x.watched))
  bx : ∃ vs, H l.bx = some (.lst vs) ∧ Paired (NoteAt H) x.box vs
structure WRep (c : Cs) (H : Hp) (L : Lay) (s : Ha05.St) : Prop where
  ins : ∃ dx, H L.w = some (.ins c.w dx (wF L s))
  pr : H L.pr = some (.lst (L.ps.map fun l => .ref l.a))
  ai : ∃ vs, H L.ai = some (.lst vs) ∧ Paired (FlyAt H) s.air vs
  cn : H L.cn = some (.dT (kvC s))
  br : H L.br = some (.dT (kvB s))
  len : L.ps.length = s.procs.length
  ps : ∀ (i : Nat) (l : PL) (x : Proc), L.ps[i]? = some l → s.procs[i]? = some x → PRep c H l x
  nd : L.ads.Nodup
/-- no tuple -/
def Box (o : Option HO) : Prop := ∃ u, o = some u ∧ ∀ xs, u ≠ .tup xs
section
variable {c : Cs} {H H' : Hp} {L : Lay} {s : Ha05.St}
theorem PRep.box {l : PL} {x : Proc} (P : PRep c H l x) : ∀ b ∈ l.ads, Box (H b) := by
  intro b hb
  obtain ⟨dx, h1⟩ := P.ins
  obtain ⟨kvs, h2, _⟩ := P.li
  obtain ⟨vs, h3, _⟩ := P.bx
  simp only [PL.ads, List.mem_cons, List.not_mem_nil, or_false] at hb
  rcases hb with e | e | e | e | e <;> subst e
  · exact ⟨_, h1, fun _ z => nomatch z⟩
  · exact ⟨_, h2, fun _ z => nomatch z⟩
  · exact ⟨_, P.wa, fun _ z => nomatch z⟩
  · exact ⟨_, P.wd, fun _ z => nomatch z⟩
  · exact ⟨_, h3, fun _ z => nomatch z⟩
theorem PRep.keep {l : PL} {x : Proc} (P : PRep c H l x) (hk : ∀ b ∈ l.ads, ∀ o, H b = some o → H' b = some o) (ht : Tups H H') : PRep c H' l x := by
  obtain ⟨dx, h1⟩ := P.ins
  obtain ⟨kvs, h2, h2'⟩ := P.li
  obtain ⟨vs, h3, h3'⟩ := P.bx
  exact ⟨⟨dx, hk _ (by simp [PL.ads]) _ h1⟩, ⟨kvs, hk _ (by simp [PL.ads]) _ h2, h2'⟩, hk _ (by simp [PL.ads]) _ P.wa, hk _ (by simp [PL.ads]) _ P.wd, ⟨vs, hk _ (by simp [PL.ads]) _ h3, notes_mono ht h3'⟩⟩
theorem WRep.procAt (R : WRep c H L s) {i : Nat} {l : PL} (h : L.ps[i]? = some l) : ∃ x, s.procs[i]? = some x ∧ PRep c H l x := by
  have h1 : i < s.procs.length := by
    rw [← R.len]
    exact (List.getElem?_eq_some_iff.mp h).1
  exact ⟨s.procs[i], List.getElem?_eq_getElem h1, R.ps i l _ h (List.getElem?_eq_getElem h1)⟩
theorem WRep.box (R : WRep c H L s) : ∀ b ∈ L.ads, Box (H b) := by
  intro b hb
  obtain ⟨dx, h1⟩ := R.ins
  obtain ⟨vs, h3, _⟩ := R.ai
  simp only [Lay.ads, List.mem_cons, List.mem_flatMap] at hb
  rcases hb with e | e | e | e | e | ⟨l, hl, hb⟩
  · subst e; exact ⟨_, h1, fun _ z => nomatch z⟩
  · subst e; exact ⟨_, R.pr, fun _ z => nomatch z⟩
  · subst e; exact ⟨_, h3, fun _ z => nomatch z⟩
  · subst e; exact ⟨_, R.cn, fun _ z => nomatch z⟩
  · subst e; exact ⟨_, R.br, fun _ z => nomatch z⟩
  · obtain ⟨i, hi⟩ := List.getElem?_of_mem hl
    obtain ⟨x, _, P⟩ := R.procAt hi
    exact P.box b hb
theorem WRep.out (R : WRep c H L s) {q : Addr} (h : H q = none) : q ∉ L.ads := fun m => by
  obtain ⟨u, e, _⟩ := R.box q m
  rw [h] at e
  cases e
theorem WRep.tup_out (R : WRep c H L s) {q : Addr} {xs : List V} (h : H q = some (.tup xs)) : q ∉ L.ads := fun m => by
  obtain ⟨u, e, n⟩ := R.box q m
  rw [h] at e
  exact n xs (Option.some.inj e).symm
theorem mem_w : L.w ∈ L.ads := by simp [Lay.ads]
theorem mem_pr : L.pr ∈ L.ads := by simp [Lay.ads]
theorem mem_ai : L.ai ∈ L.ads := by simp [Lay.ads]
theorem mem_cn : L.cn ∈ L.ads := by simp [Lay.ads]
theorem mem_br : L.br ∈ L.ads := by simp [Lay.ads]
theorem mem_p {i : Nat} {l : PL} (h : L.ps[i]? = some l) {b : Addr} (hb : b ∈ l.ads) : b ∈ L.ads := by
  simp only [Lay.ads, List.mem_cons, List.mem_flatMap]
  exact .inr (.inr (.inr (.inr (.inr ⟨l, List.mem_of_getElem? h, hb⟩))))
theorem WRep.keep (R : WRep c H L s) (hk : ∀ b ∈ L.ads, ∀ o, H b = some o → H' b = some o) (ht : Tups H H') : WRep c H' L s := by
  obtain ⟨dx, h1⟩ := R.ins
  obtain ⟨vs, h3, h3'⟩ := R.ai
  exact ⟨⟨dx, hk _ mem_w _ h1⟩, hk _ mem_pr _ R.pr, ⟨vs, hk _ mem_ai _ h3, flies_mono ht h3'⟩, hk _ mem_cn _ R.cn, hk _ mem_br _ R.br, R.len,
    fun i l x hl hx => (R.ps i l x hl hx).keep (fun b hb => hk b (mem_p hl hb)) ht, R.nd⟩
theorem tups_upd {q : Addr} {o : HO} (h : ∀ xs, H q ≠ some (.tup xs)) : Tups H (upd H q o) := fun b xs e => by
  have n : b ≠ q := fun z => h xs (by rw [← z]; exact e)
  rw [upd_ne n]
  exact e
theorem WRep.upd (R : WRep c H L s) {q : Addr} {o : HO} (hq : q ∉ L.ads) (ht : ∀ xs, H q ≠ some (.tup xs)) : WRep c (L2.upd H q o) L s :=
  R.keep (fun b hb u e => by
    have n : b ≠ q := fun z => hq (by rw [← z]; exact hb)
    rw [upd_ne n]
    exact e) (tups_upd ht)
theorem WRep.new (R : WRep c H L s) {q : Addr} {o : HO} (hq : H q = none) : WRep c (L2.upd H q o) L s :=
  R.upd (R.out hq) fun xs e => by rw [hq] at e; cases e
/-- what an arrival leaves of the rest of the heap, and of where things lie -/
structure Step (H : Hp) (L : Lay) (H' : Hp) (L' : Lay) : Prop where
  frame : ∀ b o, H b = some o → b ∉ L.ads → H' b = some o
  fresh : ∀ b ∈ L'.ads, b ∈ L.ads ∨ H b = none
  w : L'.w = L.w
  rest : L'.pr = L.pr ∧ L'.ai = L.ai ∧ L'.cn = L.cn ∧ L'.br = L.br
  ins : L'.ps.map (·.a) = L.ps.map (·.a)
theorem Step.refl (H : Hp) (L : Lay) : Step H L H L := ⟨fun _ _ h _ => h, fun _ h => .inl h, rfl, ⟨rfl, rfl, rfl, rfl⟩, rfl⟩
theorem Step.out {L' : Lay} (S : Step H L H' L') {q : Addr} {o : HO} (h : H q = some o) (n : q ∉ L.ads) : q ∉ L'.ads := fun m => by
  rcases S.fresh q m with e | e
  · exact n e
  · rw [h] at e; cases e
theorem Step.trans {H2 : Hp} {L' L2 : Lay} (a : Step H L H' L') (b : Step H' L' H2 L2) : Step H L H2 L2 := by
  refine ⟨fun x o h n => b.frame x o (a.frame x o h n) (a.out h n), fun x hx => ?_, b.w.trans a.w, ⟨b.rest.1.trans a.rest.1, b.rest.2.1.trans a.rest.2.1, b.rest.2.2.1.trans a.rest.2.2.1, b.rest.2.2.2.trans a.rest.2.2.2⟩, b.ins.trans a.ins⟩
  rcases b.fresh x hx with e | e
  · exact a.fresh x e
  · by_cases m : x ∈ L.ads
    · exact .inl m
    · refine .inr ?_
      cases q : H x with
      | none => rfl
      | some o =>
        rw [a.frame x o q m] at e
        cases e
theorem Step.tups {L' : Lay} (S : Step H L H' L') (R : WRep c H L s) : Tups H H' := fun b xs h => S.frame b _ h (R.tup_out h)
/-- within the addresses of the layout alone -/
theorem Step.same (hk : ∀ b o, H b = some o → b ∉ L.ads → H' b = some o) : Step H L H' L := ⟨hk, fun _ h => .inl h, rfl, ⟨rfl, rfl, rfl, rfl⟩, rfl⟩
theorem Step.new {q : Addr} {o : HO} (hq : H q = none) : Step H L (L2.upd H q o) L := Step.same fun b u h _ => by rw [upd_ne (ne_of_none h hq)]; exact h
theorem Step.inst {L' : Lay} (S : Step H L H' L') {i : Nat} {l : PL} (h : L.ps[i]? = some l) : ∃ l', L'.ps[i]? = some l' ∧ l'.a = l.a := by
  have e := congrArg (·[i]?) S.ins
  simp only [List.getElem?_map, h, Option.map_some] at e
  cases q : L'.ps[i]? with
  | none => rw [q] at e; cases e
  | some l' =>
    rw [q] at e
    exact ⟨l', rfl, Option.some.inj e⟩
theorem WRep.prc (R : WRep c H L s) {p : Nat} (h : Ok s p) : ∃ l, L.ps[p - 1]? = some l ∧ PRep c H l (Ha05.proc s p) := by
  have h1 : p - 1 < L.ps.length := by
    rw [R.len]
    have := h.1; have := h.2; omega
  exact ⟨L.ps[p - 1], List.getElem?_eq_getElem h1, R.ps _ _ _ (List.getElem?_eq_getElem h1) (proc_some h)⟩

/-! ### the lists that are sent -/
theorem Lay.nd5 (h : L.ads.Nodup) : L.w ≠ L.pr ∧ L.w ≠ L.ai ∧ L.w ≠ L.cn ∧ L.w ≠ L.br ∧ L.pr ≠ L.ai ∧ L.pr ≠ L.cn ∧ L.pr ≠ L.br ∧ L.ai ≠ L.cn ∧ L.ai ≠ L.br ∧ L.cn ≠ L.br := by
  simp only [Lay.ads, List.nodup_cons, List.mem_cons, not_or] at h
  obtain ⟨⟨a1, a2, a3, a4, _⟩, ⟨b1, b2, b3, _⟩, ⟨c1, c2, _⟩, ⟨d1, _⟩, _⟩ := h
  exact ⟨a1, a2, a3, a4, b1, b2, b3, c1, c2, d1⟩
theorem Lay.ndp (h : L.ads.Nodup) {i : Nat} {l : PL} (hl : L.ps[i]? = some l) {b : Addr} (hb : b ∈ l.ads) : b ≠ L.w ∧ b ≠ L.pr ∧ b ≠ L.ai ∧ b ≠ L.cn ∧ b ≠ L.br := by
  have m : b ∈ L.ps.flatMap PL.ads := List.mem_flatMap.mpr ⟨l, List.mem_of_getElem? hl, hb⟩
  simp only [Lay.ads, List.nodup_cons, List.mem_cons, not_or] at h
  obtain ⟨⟨_, _, _, _, a⟩, ⟨_, _, _, b'⟩, ⟨_, _, c'⟩, ⟨_, d⟩, e, _⟩ := h
  exact ⟨fun z => a (z ▸ m), fun z => b' (z ▸ m), fun z => c' (z ▸ m), fun z => d (z ▸ m), fun z => e (z ▸ m)⟩
theorem WRep.air (R : WRep c H L s) (hk : ∀ b o, H b = some o → b ≠ L.ai → H' b = some o) {vs : List V} {l : List Fly} (ha : H' L.ai = some (.lst vs)) (hv : Paired (FlyAt H') l vs) : WRep c H' L { s with air := l } := by
  obtain ⟨dx, h1⟩ := R.ins
  obtain ⟨vs0, h3, h3'⟩ := R.ai
  obtain ⟨n1, n2, n3, n4, n5, n6, n7, n8, n9, n10⟩ := Lay.nd5 R.nd
  have ht : Tups H H' := fun b xs e => hk b _ e fun z => by
    rw [z, h3] at e
    cases e
  exact ⟨⟨dx, hk _ _ h1 n2⟩, hk _ _ R.pr n5, ⟨vs, ha, hv⟩, hk _ _ R.cn (Ne.symm n8), hk _ _ R.br (Ne.symm n9), R.len,
    fun i l x hl hx => (R.ps i l x hl hx).keep (fun b hb u e => hk b u e (Lay.ndp R.nd hl hb).2.2.1) ht, R.nd⟩
theorem WRep.win (R : WRep c H L s) {dx : Addr} {last conns : Nat} (h : H' = L2.upd H L.w (.ins c.w dx (wF L { s with last := last, conns := conns }))) : WRep c H' L { s with last := last, conns := conns } := by
  subst h
  obtain ⟨dx0, h1⟩ := R.ins
  obtain ⟨vs, h3, h3'⟩ := R.ai
  obtain ⟨n1, n2, n3, n4, _⟩ := Lay.nd5 R.nd
  have ht : Tups H (L2.upd H L.w (.ins c.w dx (wF L { s with last := last, conns := conns }))) := tups_upd fun xs e => by rw [h1] at e; cases e
  exact ⟨⟨dx, upd_same⟩, (upd_ne (Ne.symm n1)).trans R.pr, ⟨vs, (upd_ne (Ne.symm n2)).trans h3, flies_mono ht h3'⟩, (upd_ne (Ne.symm n3)).trans R.cn, (upd_ne (Ne.symm n4)).trans R.br, R.len,
    fun i l x hl hx => (R.ps i l x hl hx).keep (fun b hb u e => (upd_ne (Lay.ndp R.nd hl hb).1).trans e) ht, R.nd⟩
theorem WRep.wir (R : WRep c H L s) {ws : List Ha05.Wire} (hk : ∀ b o, H b = some o → b ≠ L.cn → b ≠ L.br → H' b = some o) (h1 : H' L.cn = some (.dT (kvC { s with wires := ws }))) (h2 : H' L.br = some (.dT (kvB { s with wires := ws }))) :
    WRep c H' L { s with wires := ws } := by
  obtain ⟨dx, g1⟩ := R.ins
  obtain ⟨vs, h3, h3'⟩ := R.ai
  obtain ⟨n1, n2, n3, n4, n5, n6, n7, n8, n9, n10⟩ := Lay.nd5 R.nd
  have ht : Tups H H' := fun b xs e => hk b _ e (fun z => by rw [z, R.cn] at e; cases e) (fun z => by rw [z, R.br] at e; cases e)
  exact ⟨⟨dx, hk _ _ g1 n3 n4⟩, hk _ _ R.pr n6 n7, ⟨vs, hk _ _ h3 n8 n9, flies_mono ht h3'⟩, h1, h2, R.len,
    fun i l x hl hx => (R.ps i l x hl hx).keep (fun b hb u e => hk b u e (Lay.ndp R.nd hl hb).2.2.2.1 (Lay.ndp R.nd hl hb).2.2.2.2) ht, R.nd⟩
theorem split_at {α : Type} : ∀ {l : List α} {i : Nat} {x : α}, l[i]? = some x → ∃ A B, l = A ++ x :: B ∧ A.length = i
  | [], i, x, h => by simp at h
  | a :: l, 0, x, h => ⟨[], l, by simp at h; rw [h]; rfl, rfl⟩
  | a :: l, i + 1, x, h => by
    obtain ⟨A, B, e, n⟩ := split_at (l := l) (i := i) (x := x) (by simpa using h)
    exact ⟨a :: A, B, by rw [e]; rfl, by rw [List.length_cons, n]⟩
/-- the addresses of two processes are apart -/
theorem Lay.apart (h : L.ads.Nodup) {i j : Nat} {l m : PL} (hl : L.ps[i]? = some l) (hm : L.ps[j]? = some m) (n : i ≠ j) : ∀ b ∈ l.ads, b ∉ m.ads := by
  have h' : (L.ps.flatMap PL.ads).Nodup := by
    simp only [Lay.ads, List.nodup_cons] at h
    exact h.2.2.2.2.2
  obtain ⟨A, B, e, hA⟩ := split_at hl
  intro b hb hb'
  rw [e, List.flatMap_append, List.flatMap_cons] at h'
  have h2 := List.nodup_append.mp h'
  rw [e] at hm
  by_cases lt : j < A.length
  · rw [List.getElem?_append_left lt] at hm
    exact h2.2.2 b (List.mem_flatMap.mpr ⟨m, List.mem_of_getElem? hm, hb'⟩) b (List.mem_append_left _ hb) rfl
  · rw [List.getElem?_append_right (by omega)] at hm
    have h3 := List.nodup_append.mp h2.2.1
    cases q : j - A.length with
    | zero => omega
    | succ k =>
      rw [q, List.getElem?_cons_succ] at hm
      exact h3.2.2 b hb b (List.mem_flatMap.mpr ⟨m, List.mem_of_getElem? hm, hb'⟩) rfl
theorem Lay.own (h : L.ads.Nodup) {i : Nat} {l : PL} (hl : L.ps[i]? = some l) : l.ads.Nodup := by
  have h' : (L.ps.flatMap PL.ads).Nodup := by
    simp only [Lay.ads, List.nodup_cons] at h
    exact h.2.2.2.2.2
  obtain ⟨A, B, e, hA⟩ := split_at hl
  rw [e, List.flatMap_append, List.flatMap_cons] at h'
  exact (List.nodup_append.mp (List.nodup_append.mp h').2.1).1
theorem set_split {α : Type} (A B : List α) (x y : α) : (A ++ x :: B).set A.length y = A ++ y :: B := by simp
theorem setp_mem {p : Nat} {l l' : PL} (hl : L.ps[p - 1]? = some l) {b : Addr} (h : b ∈ (L.setp p l').ads) : b ∈ l'.ads ∨ b ∈ L.ads := by
  simp only [Lay.setp, Lay.ads, List.mem_cons, List.mem_flatMap] at h
  rcases h with h | h | h | h | h | ⟨m, hm, h⟩
  · exact .inr (h ▸ mem_w)
  · exact .inr (h ▸ mem_pr)
  · exact .inr (h ▸ mem_ai)
  · exact .inr (h ▸ mem_cn)
  · exact .inr (h ▸ mem_br)
  · rcases List.mem_or_eq_of_mem_set hm with e | e
    · obtain ⟨i, hi⟩ := List.getElem?_of_mem e
      exact .inr (mem_p hi h)
    · exact .inl (e ▸ h)
theorem WRep.setp (R : WRep c H L s) {p : Nat} {l l' : PL} {x' : Proc} (hl : L.ps[p - 1]? = some l) (ha : l'.a = l.a)
    (hk : ∀ b o, H b = some o → b ∉ l.ads → H' b = some o) (hn : l'.ads.Nodup) (hf : ∀ b ∈ l'.ads, b ∈ l.ads ∨ H b = none) (hP : PRep c H' l' x') :
    WRep c H' (L.setp p l') (setProc s p x') ∧ Step H L H' (L.setp p l') := by
  obtain ⟨dx, g1⟩ := R.ins
  obtain ⟨vs, h3, h3'⟩ := R.ai
  have P := R.procAt hl
  obtain ⟨x, _, P⟩ := P
  have out : ∀ b, b ∈ l.ads → b ≠ L.w ∧ b ≠ L.pr ∧ b ≠ L.ai ∧ b ≠ L.cn ∧ b ≠ L.br := fun b hb => Lay.ndp R.nd hl hb
  have ht : Tups H H' := fun b xs e => hk b _ e fun z => by
    obtain ⟨u, e2, n⟩ := P.box b z
    rw [e] at e2
    exact n xs (Option.some.inj e2).symm
  have ea : (L.ps.set (p - 1) l').map (fun l => V.ref l.a) = L.ps.map fun l => V.ref l.a := by
    rw [List.map_set, ha]
    apply List.ext_getElem?
    intro i
    rw [List.getElem?_set]
    split
    · rename_i e
      split
      · subst e
        rw [List.getElem?_map, hl]; rfl
      · rename_i n
        rw [List.getElem?_eq_none]
        omega
    · rfl
  have ei : (L.ps.set (p - 1) l').map (·.a) = L.ps.map (·.a) := by
    rw [List.map_set, ha]
    apply List.ext_getElem?
    intro i
    rw [List.getElem?_set]
    split
    · rename_i e
      split
      · subst e
        rw [List.getElem?_map, hl]; rfl
      · rename_i n
        rw [List.getElem?_eq_none]
        omega
    · rfl
  have nw : L.w ∉ l.ads := fun m => (out _ m).1 rfl
  have npr : L.pr ∉ l.ads := fun m => (out _ m).2.1 rfl
  have nai : L.ai ∉ l.ads := fun m => (out _ m).2.2.1 rfl
  have ncn : L.cn ∉ l.ads := fun m => (out _ m).2.2.2.1 rfl
  have nbr : L.br ∉ l.ads := fun m => (out _ m).2.2.2.2 rfl
  refine ⟨⟨⟨dx, hk _ _ g1 nw⟩, ?_, ⟨vs, hk _ _ h3 nai, flies_mono ht h3'⟩, hk _ _ R.cn ncn, hk _ _ R.br nbr, ?_, ?_, ?_⟩, ?_⟩
  · show H' L.pr = some (.lst ((L.ps.set (p - 1) l').map fun l => V.ref l.a))
    rw [ea]
    exact hk _ _ R.pr npr
  · show (L.ps.set (p - 1) l').length = (s.procs.set (p - 1) x').length
    rw [List.length_set, List.length_set, R.len]
  · intro i m y hm hy
    have hm' : (L.ps.set (p - 1) l')[i]? = some m := hm
    have hy' : (s.procs.set (p - 1) x')[i]? = some y := hy
    rw [List.getElem?_set] at hm' hy'
    by_cases e : p - 1 = i
    · rw [if_pos e] at hm' hy'
      have l1 : i < L.ps.length := e ▸ (List.getElem?_eq_some_iff.mp hl).1
      rw [if_pos (by omega)] at hm'
      rw [if_pos (by rw [← R.len]; omega)] at hy'
      cases hm'
      cases hy'
      exact hP
    · rw [if_neg e] at hm' hy'
      exact (R.ps i m y hm' hy').keep (fun b hb u eu => hk b u eu (Lay.apart R.nd hm' hl (fun z => e z.symm) b hb)) ht
  · -- apart
    obtain ⟨A, B, e, hA⟩ := split_at hl
    have nd := R.nd
    show (L.w :: L.pr :: L.ai :: L.cn :: L.br :: (L.ps.set (p - 1) l').flatMap PL.ads).Nodup
    have hb : ∀ b ∈ L.ads, H b ≠ none := fun b hb z => by
      obtain ⟨u, e, _⟩ := R.box b hb
      rw [z] at e
      cases e
    have es : L.ps.set (p - 1) l' = A ++ l' :: B := by rw [e, ← hA, set_split]
    rw [es]
    unfold Lay.ads at nd hb
    rw [e] at nd hb
    simp only [List.flatMap_append, List.flatMap_cons] at nd hb ⊢
    have perm : ∀ m : List Addr, (L.w :: L.pr :: L.ai :: L.cn :: L.br :: (A.flatMap PL.ads ++ (m ++ B.flatMap PL.ads))).Perm (m ++ (L.w :: L.pr :: L.ai :: L.cn :: L.br :: (A.flatMap PL.ads ++ B.flatMap PL.ads))) := fun m => by
      have h0 : (A.flatMap PL.ads ++ (m ++ B.flatMap PL.ads)).Perm (m ++ (A.flatMap PL.ads ++ B.flatMap PL.ads)) := by
        rw [← List.append_assoc, ← List.append_assoc]
        exact List.Perm.append_right _ List.perm_append_comm
      have h1 := ((((h0.cons L.br).cons L.cn).cons L.ai).cons L.pr).cons L.w
      refine h1.trans ?_
      have h2 : (L.w :: L.pr :: L.ai :: L.cn :: L.br :: (m ++ (A.flatMap PL.ads ++ B.flatMap PL.ads))) = [L.w, L.pr, L.ai, L.cn, L.br] ++ (m ++ (A.flatMap PL.ads ++ B.flatMap PL.ads)) := rfl
      rw [h2, ← List.append_assoc]
      have h3 : (m ++ (L.w :: L.pr :: L.ai :: L.cn :: L.br :: (A.flatMap PL.ads ++ B.flatMap PL.ads))) = (m ++ [L.w, L.pr, L.ai, L.cn, L.br]) ++ (A.flatMap PL.ads ++ B.flatMap PL.ads) := by simp
      rw [h3]
      exact List.Perm.append_right _ List.perm_append_comm
    have nd1 := (perm l.ads).nodup_iff.mp nd
    refine (perm l'.ads).nodup_iff.mpr ?_
    rw [List.nodup_append] at nd1 ⊢
    refine ⟨hn, nd1.2.1, fun x hx y hy z => ?_⟩
    subst z
    rcases hf x hx with q | q
    · exact nd1.2.2 x q x hy rfl
    · refine hb x ?_ q
      exact (perm l.ads).mem_iff.mpr (List.mem_append_right _ hy)
  · refine ⟨fun b o h n => hk b o h fun m => n (mem_p hl m), fun b hb => ?_, rfl, ⟨rfl, rfl, rfl, rfl⟩, ei⟩
    rcases setp_mem hl hb with m | m
    · rcases hf b m with q | q
      · exact .inl (mem_p hl q)
      · exact .inr q
    · exact .inl m
end
end PN
end
section
set_option maxRecDepth 100000
set_option maxHeartbeats 2000000
/-! The dicts of links and of watches. -/
namespace PN
open PySem L2
open Ha05 (Proc Fly Sig Link Note)
section
variable {κ : Type} [DecidableEq κ]
theorem mem_val : ∀ {kvs : List (κ × V)} {k : κ} {v : V}, (kvs.map (·.1)).Nodup → (valV kvs k = some v ↔ (k, v) ∈ kvs)
  | [], k, v, _ => by simp [valV]
  | p :: r, k, v, h => by
    have h : (p.1 :: r.map (·.1)).Nodup := h
    obtain ⟨h1, h2⟩ := List.nodup_cons.mp h
    by_cases e : p.1 = k
    · rw [valV_pos e]
      constructor
      · intro q
        cases q
        exact List.mem_cons.mpr (.inl (by rw [← e]))
      · intro q
        rcases List.mem_cons.mp q with q | q
        · rw [← q]
        · exact absurd (List.mem_map.mpr ⟨(k, v), q, rfl⟩) (e ▸ h1)
    · rw [valV_neg e, mem_val h2]
      constructor
      · exact fun q => List.mem_cons_of_mem _ q
      · intro q
        rcases List.mem_cons.mp q with q | q
        · exact absurd (by rw [← q]) e
        · exact q
theorem nodup_of_keys {kvs : List (κ × V)} (h : (kvs.map (·.1)).Nodup) : kvs.Nodup := by
  induction kvs with
  | nil => exact List.nodup_nil
  | cons p r ih =>
    have h : (p.1 :: r.map (·.1)).Nodup := h
    obtain ⟨h1, h2⟩ := List.nodup_cons.mp h
    exact List.nodup_cons.mpr ⟨fun m => h1 (List.mem_map.mpr ⟨p, m, rfl⟩), ih h2⟩
theorem val_perm {kvs ws : List (κ × V)} (h : kvs.Perm ws) (nd : (ws.map (·.1)).Nodup) (k : κ) : valV kvs k = valV ws k := by
  have nd' : (kvs.map (·.1)).Nodup := (h.map (·.1)).nodup_iff.mpr nd
  cases e : valV ws k with
  | some v => exact (mem_val nd').mpr (h.mem_iff.mpr ((mem_val nd).mp e))
  | none =>
    cases q : valV kvs k with
    | none => rfl
    | some v =>
      have := (mem_val nd).mpr (h.mem_iff.mp ((mem_val nd').mp q))
      rw [e] at this
      cases this
theorem keys_put {kvs : List (κ × V)} {k : κ} {v : V} (nd : (kvs.map (·.1)).Nodup) : ((putK kvs k v).map (·.1)).Nodup := by
  cases e : valV kvs k with
  | none => exact nd_putK v nd e
  | some x =>
    have a : (kvs.any fun kv => decide (kv.1 = k)) = true := by rw [valV_any, e]; rfl
    have e2 : putK kvs k v = kvs.map fun kv => if kv.1 = k then (kv.1, v) else kv := by
      unfold putK
      rw [if_pos a]
    rw [e2, List.map_map]
    have e3 : ((fun kv : κ × V => kv.1) ∘ fun kv => if kv.1 = k then (kv.1, v) else kv) = fun kv => kv.1 := by
      funext kv
      show (if kv.1 = k then (kv.1, v) else kv).1 = kv.1
      split <;> rfl
    rw [e3]
    exact nd
/-- two with the same values are the same but for their order -/
theorem perm_val {kvs ws : List (κ × V)} (n1 : (kvs.map (·.1)).Nodup) (n2 : (ws.map (·.1)).Nodup) (h : ∀ k, valV kvs k = valV ws k) : kvs.Perm ws := by
  refine (List.perm_ext_iff_of_nodup (nodup_of_keys n1) (nodup_of_keys n2)).mpr fun a => ?_
  rw [← mem_val (k := a.1) (v := a.2) n1, ← mem_val (k := a.1) (v := a.2) n2, h]
end
/-! ### links -/
theorem kvL_val (q : Nat) : ∀ l : List Link, valV (kvL l) (Sum.inl (q : Int)) = (l.find? fun y => y.to == q).map fun y => ni y.cutting
  | [] => rfl
  | y :: r => by
    show valV ((Sum.inl (y.to : Int), ni y.cutting) :: kvL r) _ = _
    rw [List.find?_cons]
    by_cases e : y.to = q
    · rw [valV_pos (by rw [e]), show (y.to == q) = true by simp [e]]
      rfl
    · rw [valV_neg (fun z => e (Int.ofNat.inj (Sum.inl.inj z))), kvL_val q r, show (y.to == q) = false by simp [e]]
theorem kvL_nat {l : List Link} {k : Key} {v : V} (h : valV (kvL l) k = some v) : ∃ q : Nat, k = Sum.inl (q : Int) := by
  have m := valV_in h
  obtain ⟨p, hp, e⟩ := List.mem_map.mp m
  obtain ⟨y, hy, e2⟩ := List.mem_map.mp hp
  exact ⟨y.to, by rw [← e, ← e2]⟩
theorem kvL_nd {l : List Link} (h : l.Pairwise fun a b => a.to < b.to) : ((kvL l).map (·.1)).Nodup := by
  unfold kvL
  rw [List.map_map]
  refine List.pairwise_map.mpr (h.imp fun {a b} lt z => ?_)
  have := Int.ofNat.inj (Sum.inl.inj z)
  omega
theorem insert_find (q k j : Nat) : ∀ l : List Link, ((Ha05.insertLink ⟨q, k⟩ l).find? fun y => y.to == j).map (fun y => ni y.cutting) = if j = q then some (ni k) else (l.find? fun y => y.to == j).map fun y => ni y.cutting
  | [] => by
    by_cases e : j = q
    · simp [Ha05.insertLink, List.find?_cons, e]
    · simp [Ha05.insertLink, List.find?_cons, e, show ¬ q = j from fun z => e z.symm]
  | z :: r => by
    unfold Ha05.insertLink
    have ih := insert_find q k j r
    by_cases c1 : q < z.to
    · rw [if_pos c1]
      by_cases e : j = q
      · simp [List.find?_cons, e]
      · simp [List.find?_cons, e, show ¬ q = j from fun z => e z.symm]
    · rw [if_neg c1]
      by_cases c2 : q = z.to
      · rw [if_pos c2]
        by_cases e : j = q
        · simp [List.find?_cons, e]
        · have e2 : ¬ q = j := fun z => e z.symm
          simp [List.find?_cons, e, e2, show ¬ z.to = j from fun z => e2 (by omega)]
      · rw [if_neg c2]
        by_cases e3 : z.to = j
        · simp [List.find?_cons, e3, show ¬ j = q from fun z => c2 (by omega)]
        · rw [List.find?_cons, List.find?_cons, show (z.to == j) = false by simp [e3]]
          exact ih
theorem filter_find (q j : Nat) : ∀ l : List Link, ((l.filter fun y => y.to != q).find? fun y => y.to == j) = if j = q then none else l.find? fun y => y.to == j
  | [] => by simp
  | z :: r => by
    have ih := filter_find q j r
    rw [List.filter_cons]
    by_cases c : z.to = q
    · rw [if_neg (by simp [c]), ih]
      by_cases e : j = q
      · rw [if_pos e, if_pos e]
      · rw [if_neg e, if_neg e, List.find?_cons, show (z.to == j) = false by simp; omega]
    · rw [if_pos (by simp [c]), List.find?_cons, List.find?_cons]
      by_cases e3 : z.to = j
      · rw [show (z.to == j) = true by simp [e3], if_neg (by omega)]
      · rw [show (z.to == j) = false by simp [e3]]
        exact ih
section
variable {kvs : List (Key × V)} {l : List Link}
theorem links_val (h : kvs.Perm (kvL l)) (hs : l.Pairwise fun a b => a.to < b.to) (q : Nat) : valV kvs (Sum.inl (q : Int)) = (l.find? fun y => y.to == q).map fun y => ni y.cutting := (val_perm h (kvL_nd hs) _).trans (kvL_val q l)
theorem links_put (h : kvs.Perm (kvL l)) (hs : l.Pairwise fun a b => a.to < b.to) (q k : Nat) : (putK kvs (Sum.inl (q : Int)) (ni k)).Perm (kvL (Ha05.insertLink ⟨q, k⟩ l)) := by
  have nd : (kvs.map (·.1)).Nodup := (h.map (·.1)).nodup_iff.mpr (kvL_nd hs)
  refine perm_val (keys_put nd) (kvL_nd (insertLink_sorted hs)) fun j => ?_
  rw [valV_put, val_perm h (kvL_nd hs)]
  by_cases e : ∃ i : Nat, j = Sum.inl (i : Int)
  · obtain ⟨i, rfl⟩ := e
    rw [kvL_val, kvL_val, insert_find]
    by_cases c : i = q
    · rw [if_pos c, if_pos (by rw [c])]
    · have n : ¬ (Sum.inl (i : Int) : Key) = Sum.inl (q : Int) := fun z => c (Int.ofNat.inj (Sum.inl.inj z))
      rw [if_neg c, if_neg n]
  · rw [if_neg (fun z => e ⟨q, z⟩)]
    cases q1 : valV (kvL l) j with
    | some v => exact absurd (kvL_nat q1) e
    | none =>
      cases q2 : valV (kvL (Ha05.insertLink ⟨q, k⟩ l)) j with
      | some v => exact absurd (kvL_nat q2) e
      | none => rfl
theorem links_drop (h : kvs.Perm (kvL l)) (q : Nat) : (dropK kvs (Sum.inl (q : Int))).Perm (kvL (l.filter fun y => y.to != q)) := by
  have h1 : (dropK kvs (Sum.inl (q : Int))).Perm (dropK (kvL l) (Sum.inl (q : Int))) := h.filter _
  refine h1.trans (List.Perm.of_eq ?_)
  unfold dropK kvL
  rw [List.filter_map]
  congr 1
  apply List.filter_congr
  intro y _
  show decide (Sum.inl (y.to : Int) ≠ (Sum.inl (q : Int) : Key)) = (y.to != q)
  by_cases e : y.to = q
  · simp [e]
  · have : ¬ (Sum.inl (y.to : Int) : Key) = Sum.inl (q : Int) := fun z => e (Int.ofNat.inj (Sum.inl.inj z))
    simp [e, this]
theorem links_len (h : kvs.Perm (kvL l)) : kvs.length = l.length := by rw [h.length_eq]; simp [kvL]
/-- the keys, as sorted hands them on -/
theorem links_keys (h : kvs.Perm (kvL l)) : ∃ ks : List Int, kvs.map (·.1) = ks.map Sum.inl ∧ ks.Perm (l.map fun y => (y.to : Int)) := by
  have h1 := h.map (·.1)
  have e : (kvL l).map (·.1) = (l.map fun y => (y.to : Int)).map Sum.inl := by simp [kvL]
  rw [e] at h1
  refine ⟨kvs.map fun kv => (match kv.1 with | Sum.inl i => i | Sum.inr _ => 0), ?_, ?_⟩
  · rw [List.map_map]
    apply List.map_congr_left
    intro a ha
    have m : a.1 ∈ (l.map fun y => (y.to : Int)).map Sum.inl := h1.mem_iff.mp (List.mem_map.mpr ⟨a, ha, rfl⟩)
    obtain ⟨z, _, ez⟩ := List.mem_map.mp m
    show a.1 = Sum.inl (match a.1 with | Sum.inl i => i | Sum.inr _ => 0)
    rw [← ez]
  · have h2 := h1.map (fun k : Key => (match k with | Sum.inl i => i | Sum.inr _ => 0))
    rw [List.map_map, List.map_map] at h2
    have e3 : (l.map fun y => (y.to : Int)).map ((fun k : Key => (match k with | Sum.inl i => i | Sum.inr _ => 0)) ∘ Sum.inl) = l.map fun y => (y.to : Int) := by
      rw [List.map_map]
      rfl
    rw [e3] at h2
    exact h2
theorem links_sorted {ks ys : List Int} (hs : l.Pairwise fun a b => a.to < b.to) (h1 : ks.Perm (l.map fun y => (y.to : Int))) (h2 : ys.Perm ks) (h3 : ys.Pairwise (· ≤ ·)) : ys = l.map fun y => (y.to : Int) := by
  refine (h2.trans h1).eq_of_pairwise (le := (· ≤ ·)) (fun a b _ _ x y => Int.le_antisymm x y) h3 ?_
  exact List.pairwise_map.mpr (hs.imp fun {a b} lt => by omega)
end
/-! ### watches -/
theorem kvW_val (k : Nat) : ∀ l : List (Nat × Nat), valV (kvW l) (Sum.inl (k : Int)) = (l.find? fun y => y.1 == k).map fun y => ni y.2
  | [] => rfl
  | y :: r => by
    show valV ((Sum.inl (y.1 : Int), ni y.2) :: kvW r) _ = _
    rw [List.find?_cons]
    by_cases e : y.1 = k
    · rw [valV_pos (by rw [e]), show (y.1 == k) = true by simp [e]]
      rfl
    · rw [valV_neg (fun z => e (Int.ofNat.inj (Sum.inl.inj z))), kvW_val k r, show (y.1 == k) = false by simp [e]]
theorem kvW_drop (l : List (Nat × Nat)) (k : Nat) : dropK (kvW l) (Sum.inl (k : Int)) = kvW (l.filter fun y => y.1 != k) := by
  unfold dropK kvW
  rw [List.filter_map]
  congr 1
  apply List.filter_congr
  intro y _
  show decide (Sum.inl (y.1 : Int) ≠ (Sum.inl (k : Int) : Key)) = (y.1 != k)
  by_cases e : y.1 = k
  · simp [e]
  · have : ¬ (Sum.inl (y.1 : Int) : Key) = Sum.inl (k : Int) := fun z => e (Int.ofNat.inj (Sum.inl.inj z))
    simp [e, this]
theorem kvW_put {l : List (Nat × Nat)} {k p : Nat} (h : ∀ y ∈ l, y.1 ≠ k) : putK (kvW l) (Sum.inl (k : Int)) (ni p) = kvW (l ++ [(k, p)]) := by
  have e : valV (kvW l) (Sum.inl (k : Int)) = none := by
    rw [kvW_val, List.find?_eq_none.mpr]
    · rfl
    · intro y hy
      simp [h y hy]
  rw [putK_new _ e]
  simp [kvW]
theorem kvW_len (l : List (Nat × Nat)) : (kvW l).length = l.length := by simp [kvW]
end PN
end
section
set_option maxRecDepth 100000
set_option maxHeartbeats 2000000
/-! The text by places, and what the top leaves of it. -/
namespace PN
open PySem PySem.Spec PyProof.Rows L2
def top (i : Nat) : Stmt := PySem.Challenge.pw_partednodes_s01_answers.main.body.getD i (.Pass ⟨0, 0, 0, 0⟩)
abbrev s_Process_init : Stmt := inClass (top 6) 0
theorem sc_Process_init : FnScope ["self", "node"] ["self", "node"] (defScope s_Process_init) := ⟨rfl, rfl, rfl, by decide +kernel, rfl, by decide +kernel, by decide +kernel⟩
abbrev s_Process_link_holds : Stmt := inClass (top 6) 1
theorem sc_Process_link_holds : FnScope ["self", "q"] ["self", "q"] (defScope s_Process_link_holds) := ⟨rfl, rfl, rfl, by decide +kernel, rfl, by decide +kernel, by decide +kernel⟩
abbrev s_Process_end_with : Stmt := inClass (top 6) 2
theorem sc_Process_end_with : FnScope ["self", "why"] ["self", "why"] (defScope s_Process_end_with) := ⟨rfl, rfl, rfl, by decide +kernel, rfl, by decide +kernel, by decide +kernel⟩
abbrev s_comes_back : Stmt := top 22
theorem sc_comes_back : FnScope ["signal", "why"] ["signal", "why"] (defScope s_comes_back) := ⟨rfl, rfl, rfl, by decide +kernel, rfl, by decide +kernel, by decide +kernel⟩
abbrev s_wire_between : Stmt := top 26
theorem sc_wire_between : FnScope ["a", "b"] ["a", "b"] (defScope s_wire_between) := ⟨rfl, rfl, rfl, by decide +kernel, rfl, by decide +kernel, by decide +kernel⟩
abbrev s_World_init : Stmt := inClass (top 27) 0
theorem sc_World_init : FnScope ["self"] ["self"] (defScope s_World_init) := ⟨rfl, rfl, rfl, by decide +kernel, rfl, by decide +kernel, by decide +kernel⟩
abbrev s_World_has_process : Stmt := inClass (top 27) 1
theorem sc_World_has_process : FnScope ["self", "p"] ["self", "p"] (defScope s_World_has_process) := ⟨rfl, rfl, rfl, by decide +kernel, rfl, by decide +kernel, by decide +kernel⟩
abbrev s_World_process : Stmt := inClass (top 27) 2
theorem sc_World_process : FnScope ["self", "p"] ["self", "p"] (defScope s_World_process) := ⟨rfl, rfl, rfl, by decide +kernel, rfl, by decide +kernel, by decide +kernel⟩
abbrev s_World_new_process : Stmt := inClass (top 27) 3
theorem sc_World_new_process : FnScope ["self", "node"] ["self", "node"] (defScope s_World_new_process) := ⟨rfl, rfl, rfl, by decide +kernel, rfl, by decide +kernel, by decide +kernel⟩
abbrev s_World_new_number : Stmt := inClass (top 27) 4
theorem sc_World_new_number : FnScope ["self"] ["self"] (defScope s_World_new_number) := ⟨rfl, rfl, rfl, by decide +kernel, rfl, by decide +kernel, by decide +kernel⟩
abbrev s_World_new_connection : Stmt := inClass (top 27) 5
theorem sc_World_new_connection : FnScope ["self"] ["self"] (defScope s_World_new_connection) := ⟨rfl, rfl, rfl, by decide +kernel, rfl, by decide +kernel, by decide +kernel⟩
abbrev s_World_send : Stmt := inClass (top 27) 6
theorem sc_World_send : FnScope ["self", "p", "q", "signal", "here", "there"] ["self", "p", "q", "signal"] (defScope s_World_send) := ⟨rfl, rfl, rfl, by decide +kernel, rfl, by decide +kernel, by decide +kernel⟩
abbrev s_World_send_back : Stmt := inClass (top 27) 7
theorem sc_World_send_back : FnScope ["self", "p", "q", "signal", "back"] ["self", "p", "q", "signal"] (defScope s_World_send_back) := ⟨rfl, rfl, rfl, by decide +kernel, rfl, by decide +kernel, by decide +kernel⟩
abbrev s_World_end : Stmt := inClass (top 27) 8
theorem sc_World_end : FnScope ["self", "p", "why", "process", "q", "number"] ["self", "p", "why"] (defScope s_World_end) := ⟨rfl, rfl, rfl, by decide +kernel, rfl, by decide +kernel, by decide +kernel⟩
abbrev s_World_end_comes : Stmt := inClass (top 27) 9
theorem sc_World_end_comes : FnScope ["self", "p", "why", "note", "process"] ["self", "p", "why", "note"] (defScope s_World_end_comes) := ⟨rfl, rfl, rfl, by decide +kernel, rfl, by decide +kernel, by decide +kernel⟩
abbrev s_word_arrives : Stmt := top 29
theorem sc_word_arrives : FnScope ["world", "p", "q", "signal", "receiver"] ["world", "p", "q", "signal"] (defScope s_word_arrives) := ⟨rfl, rfl, rfl, by decide +kernel, rfl, by decide +kernel, by decide +kernel⟩
abbrev s_link_arrives : Stmt := top 30
theorem sc_link_arrives : FnScope ["world", "p", "q", "signal", "receiver"] ["world", "p", "q", "signal"] (defScope s_link_arrives) := ⟨rfl, rfl, rfl, by decide +kernel, rfl, by decide +kernel, by decide +kernel⟩
abbrev s_cut_arrives : Stmt := top 31
theorem sc_cut_arrives : FnScope ["world", "p", "q", "signal", "receiver"] ["world", "p", "q", "signal"] (defScope s_cut_arrives) := ⟨rfl, rfl, rfl, by decide +kernel, rfl, by decide +kernel, by decide +kernel⟩
abbrev s_heard_arrives : Stmt := top 32
theorem sc_heard_arrives : FnScope ["world", "p", "q", "signal", "receiver"] ["world", "p", "q", "signal"] (defScope s_heard_arrives) := ⟨rfl, rfl, rfl, by decide +kernel, rfl, by decide +kernel, by decide +kernel⟩
abbrev s_ended_arrives : Stmt := top 33
theorem sc_ended_arrives : FnScope ["world", "p", "q", "signal", "receiver", "held"] ["world", "p", "q", "signal"] (defScope s_ended_arrives) := ⟨rfl, rfl, rfl, by decide +kernel, rfl, by decide +kernel, by decide +kernel⟩
abbrev s_stop_arrives : Stmt := top 34
theorem sc_stop_arrives : FnScope ["world", "p", "q", "signal"] ["world", "p", "q", "signal"] (defScope s_stop_arrives) := ⟨rfl, rfl, rfl, by decide +kernel, rfl, by decide +kernel, by decide +kernel⟩
abbrev s_watch_arrives : Stmt := top 35
theorem sc_watch_arrives : FnScope ["world", "p", "q", "signal", "receiver"] ["world", "p", "q", "signal"] (defScope s_watch_arrives) := ⟨rfl, rfl, rfl, by decide +kernel, rfl, by decide +kernel, by decide +kernel⟩
abbrev s_unwatch_arrives : Stmt := top 36
theorem sc_unwatch_arrives : FnScope ["world", "p", "q", "signal", "receiver"] ["world", "p", "q", "signal"] (defScope s_unwatch_arrives) := ⟨rfl, rfl, rfl, by decide +kernel, rfl, by decide +kernel, by decide +kernel⟩
abbrev s_gone_arrives : Stmt := top 37
theorem sc_gone_arrives : FnScope ["world", "p", "q", "signal", "receiver"] ["world", "p", "q", "signal"] (defScope s_gone_arrives) := ⟨rfl, rfl, rfl, by decide +kernel, rfl, by decide +kernel, by decide +kernel⟩
abbrev s_arrives_at_ended : Stmt := top 39
theorem sc_arrives_at_ended : FnScope ["world", "p", "q", "signal", "back"] ["world", "p", "q", "signal"] (defScope s_arrives_at_ended) := ⟨rfl, rfl, rfl, by decide +kernel, rfl, by decide +kernel, by decide +kernel⟩
abbrev s_counts : Stmt := top 40
theorem sc_counts : FnScope ["world", "p", "q", "connection", "here", "there"] ["world", "p", "q", "connection"] (defScope s_counts) := ⟨rfl, rfl, rfl, by decide +kernel, rfl, by decide +kernel, by decide +kernel⟩
abbrev s_arrive : Stmt := top 41
theorem sc_arrive : FnScope ["world", "place", "sent", "p", "q", "signal", "does"] ["world", "place"] (defScope s_arrive) := ⟨rfl, rfl, rfl, by decide +kernel, rfl, by decide +kernel, by decide +kernel⟩
abbrev s_numbers_of_those_on : Stmt := top 43
theorem sc_numbers_of_those_on : FnScope ["world", "joined", "node", "number", "q"] ["world", "joined", "node"] (defScope s_numbers_of_those_on) := ⟨rfl, rfl, rfl, by decide +kernel, rfl, by decide +kernel, by decide +kernel⟩
abbrev s_lose_watched_by : Stmt := top 44
theorem sc_lose_watched_by : FnScope ["world", "p", "node", "process", "lost", "number"] ["world", "p", "node"] (defScope s_lose_watched_by) := ⟨rfl, rfl, rfl, by decide +kernel, rfl, by decide +kernel, by decide +kernel⟩
abbrev s_lose_watches : Stmt := top 45
theorem sc_lose_watches : FnScope ["world", "p", "node", "process", "lost", "number"] ["world", "p", "node"] (defScope s_lose_watches) := ⟨rfl, rfl, rfl, by decide +kernel, rfl, by decide +kernel, by decide +kernel⟩
abbrev s_lose_links : Stmt := top 46
theorem sc_lose_links : FnScope ["world", "p", "node", "process", "lost", "held", "q"] ["world", "p", "node"] (defScope s_lose_links) := ⟨rfl, rfl, rfl, by decide +kernel, rfl, by decide +kernel, by decide +kernel⟩
abbrev s_notice_loss : Stmt := top 47
theorem sc_notice_loss : FnScope ["world", "a", "b", "p", "process"] ["world", "a", "b"] (defScope s_notice_loss) := ⟨rfl, rfl, rfl, by decide +kernel, rfl, by decide +kernel, by decide +kernel⟩
abbrev s_join_nodes : Stmt := top 48
theorem sc_join_nodes : FnScope ["world", "a", "b", "wire", "connection"] ["world", "a", "b"] (defScope s_join_nodes) := ⟨rfl, rfl, rfl, by decide +kernel, rfl, by decide +kernel, by decide +kernel⟩
abbrev s_one_if : Stmt := top 50
theorem sc_one_if : FnScope ["yes"] ["yes"] (defScope s_one_if) := ⟨rfl, rfl, rfl, by decide +kernel, rfl, by decide +kernel, by decide +kernel⟩
abbrev s_told_of_joined : Stmt := top 51
theorem sc_told_of_joined : FnScope ["joined", "numbers", "number", "who"] ["joined"] (defScope s_told_of_joined) := ⟨rfl, rfl, rfl, by decide +kernel, rfl, by decide +kernel, by decide +kernel⟩
abbrev s_told_of_links : Stmt := top 52
theorem sc_told_of_links : FnScope ["links", "numbers", "q"] ["links"] (defScope s_told_of_links) := ⟨rfl, rfl, rfl, by decide +kernel, rfl, by decide +kernel, by decide +kernel⟩
abbrev s_told_of_process : Stmt := top 53
theorem sc_told_of_process : FnScope ["process", "numbers"] ["process"] (defScope s_told_of_process) := ⟨rfl, rfl, rfl, by decide +kernel, rfl, by decide +kernel, by decide +kernel⟩
abbrev s_told_of_box : Stmt := top 54
theorem sc_told_of_box : FnScope ["box", "numbers", "note"] ["box"] (defScope s_told_of_box) := ⟨rfl, rfl, rfl, by decide +kernel, rfl, by decide +kernel, by decide +kernel⟩
abbrev s_told_of_air : Stmt := top 55
theorem sc_told_of_air : FnScope ["air", "numbers", "p", "q", "signal", "connection"] ["air"] (defScope s_told_of_air) := ⟨rfl, rfl, rfl, by decide +kernel, rfl, by decide +kernel, by decide +kernel⟩
abbrev s_told_of_wires : Stmt := top 56
theorem sc_told_of_wires : FnScope ["world", "numbers", "a", "b"] ["world"] (defScope s_told_of_wires) := ⟨rfl, rfl, rfl, by decide +kernel, rfl, by decide +kernel, by decide +kernel⟩
abbrev s_is_node : Stmt := top 71
theorem sc_is_node : FnScope ["number"] ["number"] (defScope s_is_node) := ⟨rfl, rfl, rfl, by decide +kernel, rfl, by decide +kernel, by decide +kernel⟩
abbrev s_process_refusal : Stmt := top 72
theorem sc_process_refusal : FnScope ["world", "p"] ["world", "p"] (defScope s_process_refusal) := ⟨rfl, rfl, rfl, by decide +kernel, rfl, by decide +kernel, by decide +kernel⟩
abbrev s_room_refusal : Stmt := top 73
theorem sc_room_refusal : FnScope ["world"] ["world"] (defScope s_room_refusal) := ⟨rfl, rfl, rfl, by decide +kernel, rfl, by decide +kernel, by decide +kernel⟩
abbrev s_air_refusal : Stmt := top 74
theorem sc_air_refusal : FnScope ["world"] ["world"] (defScope s_air_refusal) := ⟨rfl, rfl, rfl, by decide +kernel, rfl, by decide +kernel, by decide +kernel⟩
abbrev s_sending_refusal : Stmt := top 75
theorem sc_sending_refusal : FnScope ["world", "p", "q", "refusal"] ["world", "p", "q"] (defScope s_sending_refusal) := ⟨rfl, rfl, rfl, by decide +kernel, rfl, by decide +kernel, by decide +kernel⟩
abbrev s_joining_refusal : Stmt := top 76
theorem sc_joining_refusal : FnScope ["world", "p", "q"] ["world", "p", "q"] (defScope s_joining_refusal) := ⟨rfl, rfl, rfl, by decide +kernel, rfl, by decide +kernel, by decide +kernel⟩
abbrev s_child_refusal : Stmt := top 77
theorem sc_child_refusal : FnScope ["world", "p", "how", "refusal"] ["world", "p", "how"] (defScope s_child_refusal) := ⟨rfl, rfl, rfl, by decide +kernel, rfl, by decide +kernel, by decide +kernel⟩
abbrev s_wire_refusal : Stmt := top 78
theorem sc_wire_refusal : FnScope ["a", "b"] ["a", "b"] (defScope s_wire_refusal) := ⟨rfl, rfl, rfl, by decide +kernel, rfl, by decide +kernel, by decide +kernel⟩
abbrev s_start : Stmt := top 79
theorem sc_start : FnScope ["world", "node", "refusal"] ["world", "node"] (defScope s_start) := ⟨rfl, rfl, rfl, by decide +kernel, rfl, by decide +kernel, by decide +kernel⟩
abbrev s_child : Stmt := top 80
theorem sc_child : FnScope ["world", "p", "how", "refusal", "parent", "q", "started", "number"] ["world", "p", "how"] (defScope s_child) := ⟨rfl, rfl, rfl, by decide +kernel, rfl, by decide +kernel, by decide +kernel⟩
abbrev s_link : Stmt := top 81
theorem sc_link : FnScope ["world", "p", "q", "refusal", "caller"] ["world", "p", "q"] (defScope s_link) := ⟨rfl, rfl, rfl, by decide +kernel, rfl, by decide +kernel, by decide +kernel⟩
abbrev s_cut : Stmt := top 82
theorem sc_cut : FnScope ["world", "p", "q", "refusal", "caller", "number"] ["world", "p", "q"] (defScope s_cut) := ⟨rfl, rfl, rfl, by decide +kernel, rfl, by decide +kernel, by decide +kernel⟩
abbrev s_watch : Stmt := top 83
theorem sc_watch : FnScope ["world", "p", "q", "refusal", "caller", "number"] ["world", "p", "q"] (defScope s_watch) := ⟨rfl, rfl, rfl, by decide +kernel, rfl, by decide +kernel, by decide +kernel⟩
abbrev s_unwatch : Stmt := top 84
theorem sc_unwatch : FnScope ["world", "p", "k", "refusal", "caller", "q"] ["world", "p", "k"] (defScope s_unwatch) := ⟨rfl, rfl, rfl, by decide +kernel, rfl, by decide +kernel, by decide +kernel⟩
abbrev s_ends : Stmt := top 85
theorem sc_ends : FnScope ["world", "p", "why", "refusal"] ["world", "p", "why"] (defScope s_ends) := ⟨rfl, rfl, rfl, by decide +kernel, rfl, by decide +kernel, by decide +kernel⟩
abbrev s_stop : Stmt := top 86
theorem sc_stop : FnScope ["world", "p", "q", "why", "refusal"] ["world", "p", "q", "why"] (defScope s_stop) := ⟨rfl, rfl, rfl, by decide +kernel, rfl, by decide +kernel, by decide +kernel⟩
abbrev s_trap : Stmt := top 87
theorem sc_trap : FnScope ["world", "p", "yes", "refusal", "caller", "before"] ["world", "p", "yes"] (defScope s_trap) := ⟨rfl, rfl, rfl, by decide +kernel, rfl, by decide +kernel, by decide +kernel⟩
abbrev s_say : Stmt := top 88
theorem sc_say : FnScope ["world", "p", "q", "n", "refusal"] ["world", "p", "q", "n"] (defScope s_say) := ⟨rfl, rfl, rfl, by decide +kernel, rfl, by decide +kernel, by decide +kernel⟩
abbrev s_place_of_first : Stmt := top 89
theorem sc_place_of_first : FnScope ["world", "p", "q", "place", "sent"] ["world", "p", "q"] (defScope s_place_of_first) := ⟨rfl, rfl, rfl, by decide +kernel, rfl, by decide +kernel, by decide +kernel⟩
abbrev s_deliver : Stmt := top 90
theorem sc_deliver : FnScope ["world", "p", "q", "place", "numbers"] ["world", "p", "q"] (defScope s_deliver) := ⟨rfl, rfl, rfl, by decide +kernel, rfl, by decide +kernel, by decide +kernel⟩
abbrev s_turns : Stmt := top 91
theorem sc_turns : FnScope ["world", "n", "arrived"] ["world", "n"] (defScope s_turns) := ⟨rfl, rfl, rfl, by decide +kernel, rfl, by decide +kernel, by decide +kernel⟩
abbrev s_box : Stmt := top 92
theorem sc_box : FnScope ["world", "p"] ["world", "p"] (defScope s_box) := ⟨rfl, rfl, rfl, by decide +kernel, rfl, by decide +kernel, by decide +kernel⟩
abbrev s_process : Stmt := top 93
theorem sc_process : FnScope ["world", "p"] ["world", "p"] (defScope s_process) := ⟨rfl, rfl, rfl, by decide +kernel, rfl, by decide +kernel, by decide +kernel⟩
abbrev s_air : Stmt := top 94
theorem sc_air : FnScope ["world"] ["world"] (defScope s_air) := ⟨rfl, rfl, rfl, by decide +kernel, rfl, by decide +kernel, by decide +kernel⟩
abbrev s_break_wire : Stmt := top 95
theorem sc_break_wire : FnScope ["world", "a", "b", "refusal", "wire"] ["world", "a", "b"] (defScope s_break_wire) := ⟨rfl, rfl, rfl, by decide +kernel, rfl, by decide +kernel, by decide +kernel⟩
abbrev s_notice : Stmt := top 96
theorem sc_notice : FnScope ["world", "a", "b", "refusal", "lost"] ["world", "a", "b"] (defScope s_notice) := ⟨rfl, rfl, rfl, by decide +kernel, rfl, by decide +kernel, by decide +kernel⟩
abbrev s_join : Stmt := top 97
theorem sc_join : FnScope ["world", "a", "b", "refusal"] ["world", "a", "b"] (defScope s_join) := ⟨rfl, rfl, rfl, by decide +kernel, rfl, by decide +kernel, by decide +kernel⟩
abbrev s_wires : Stmt := top 98
theorem sc_wires : FnScope ["world"] ["world"] (defScope s_wires) := ⟨rfl, rfl, rfl, by decide +kernel, rfl, by decide +kernel, by decide +kernel⟩
abbrev s_answer : Stmt := top 101
theorem sc_answer : FnScope ["world", "number", "values", "call"] ["world", "number", "values"] (defScope s_answer) := ⟨rfl, rfl, rfl, by decide +kernel, rfl, by decide +kernel, by decide +kernel⟩
abbrev s_answers : Stmt := top 102
theorem sc_answers : FnScope ["calls", "world", "told", "at", "behind", "numbers"] ["calls"] (defScope s_answers) := ⟨rfl, rfl, rfl, by decide +kernel, rfl, by decide +kernel, by decide +kernel⟩
/-- a number of the module's own -/
def Cst (mg : Str → Option Value) (x : Str) (n : Int) : Prop := ∃ t, mg x = some (.int n t)
theorem pe_k {X : Cx} {x : Str} {n : Int} {pos : Pos} (h : Cst X.mg x n) (hg : Gl X x) (hd : (x == ("__debug__" : Str)) = false := by decide) : PE X (.Name x pos) (tC (.int n)) := by
  obtain ⟨t, e⟩ := h
  exact pe_glob hg e ⟨t, rfl⟩ hd
structure Cal (P : Program) (w : World) (K : PySem.W.Frag) (mg : Str → Option Value) (base : Heap) (k : Nat) (x : Str) (sp : Sp) : Prop where
  ex : ∃ (f : Addr) (fd : FuncData) (ps : List Str), FnOk P w K mg base CX0 k f fd ps sp ∧ mg x = some (.ref f) ∧ PySem.W.keepIn K (.ref f) = true ∧ Binds K fd ps []
structure Met (P : Program) (w : World) (K : PySem.W.Frag) (mg : Str → Option Value) (base : Heap) (k : Nat) (C : Addr) (m : Str) (sp : Sp) : Prop where
  ex : ∃ (f : Addr) (fd : FuncData) (ps : List Str), Cls K C ∧ Meth K C m f ∧ FnOk P w K mg base CX0 k f fd ps sp ∧ Binds K fd ps []
structure Mak (P : Program) (w : World) (K : PySem.W.Frag) (mg : Str → Option Value) (base : Heap) (k : Nat) (x : Str) (C : Addr) (sp : Sp) : Prop where
  ex : ∃ (f : Addr) (fd : FuncData) (ps : List Str), Mk K C f ∧ FnOk P w K mg base CX0 k f fd ps sp ∧ mg x = some (.ref C) ∧ Binds K fd ps []
/-- where a def of the text stands -/
structure Dfn (K : PySem.W.Frag) (mg : Str → Option Value) (x : Str) (st : Stmt) : Prop where
  ex : ∃ (f : Addr) (fd : FuncData), Fun K x x st f fd ∧ mg x = some (.ref f)
structure Dme (K : PySem.W.Frag) (C : Addr) (m q : Str) (st : Stmt) : Prop where
  ex : ∃ (f : Addr) (fd : FuncData), Fun K m q st f fd ∧ Meth K C m f
structure Din (K : PySem.W.Frag) (mg : Str → Option Value) (x : Str) (C : Addr) (q : Str) (st : Stmt) : Prop where
  ex : ∃ (f : Addr) (fd : FuncData), Fun K "__init__" q st f fd ∧ Mk K C f ∧ mg x = some (.ref C)
section
variable {P : Program} {w : World} {K : PySem.W.Frag} {mg : Str → Option Value} {base : Heap}
def Bnd (x q : Str) (st : Stmt) (ps : List Str) : Prop := ∀ (kV doc pm : Value) (an : Option Addr) (cdv ct : Value) (us : List Value), us.length = ps.length →
  bindArgs (PySem.W.fnOf x q (defArgs st) (defBody st) (defScope st) .none kV doc pm an cdv ct) ⟨us, []⟩ = pure (ps.zip us)
def Bdy (P : Program) (w : World) (K : PySem.W.Frag) (mg : Str → Option Value) (base : Heap) (N : List Str) (q : Str) (st : Stmt) (k : Nat) (sp : Sp) : Prop :=
  ∀ (f : Addr) (cdv : Value) (A : Around) (outer : List Env) (s : Shared) (H : Hp) (vs : List V) (Q : VK) (E : XK), Room k (A.deeper (envOfC q (defScope st) s.heap.objs.size f cdv)) → sp vs H Q E →
    ∃ t, PSs (cxOf CX0 P w K mg base N q (defScope st) f cdv A outer s H E).nox (defBody st) t ∧ t { nx := fun _ H' => Q .non H', rt := Q } (start N vs) H
theorem cal_of {x : Str} {st : Stmt} {N ps : List Str} {k : Nat} {sp : Sp} (D : Dfn K mg x st) (S : FnScope N ps (defScope st)) (hb : Bnd x x st ps) (len : ∀ vs H Q E, sp vs H Q E → vs.length = ps.length) (body : Bdy P w K mg base N x st k sp) :
    Cal P w K mg base (k + 1) x sp := by
  obtain ⟨f, fd, F, hm⟩ := D.ex
  exact ⟨f, fd, ps, F.ok S len (fun cdv A outer s H vs Q E hr h => body f cdv A outer s H vs Q E hr h), hm, F.kp, F.binds hb⟩
theorem met_of {C : Addr} {m q : Str} {st : Stmt} {N ps : List Str} {k : Nat} {sp : Sp} (hc : Cls K C) (D : Dme K C m q st) (S : FnScope N ps (defScope st)) (hb : Bnd m q st ps) (len : ∀ vs H Q E, sp vs H Q E → vs.length = ps.length) (body : Bdy P w K mg base N q st k sp) :
    Met P w K mg base (k + 1) C m sp := by
  obtain ⟨f, fd, F, hm⟩ := D.ex
  exact ⟨f, fd, ps, hc, hm, F.ok S len (fun cdv A outer s H vs Q E hr h => body f cdv A outer s H vs Q E hr h), F.binds hb⟩
theorem mak_of {C : Addr} {x q : Str} {st : Stmt} {N ps : List Str} {k : Nat} {sp : Sp} (D : Din K mg x C q st) (S : FnScope N ps (defScope st)) (hb : Bnd "__init__" q st ps) (len : ∀ vs H Q E, sp vs H Q E → vs.length = ps.length) (body : Bdy P w K mg base N q st k sp) :
    Mak P w K mg base (k + 1) x C sp := by
  obtain ⟨f, fd, F, M, hm⟩ := D.ex
  exact ⟨f, fd, ps, M, F.ok S len (fun cdv A outer s H vs Q E hr h => body f cdv A outer s H vs Q E hr h), hm, F.binds hb⟩
theorem Cal.held {k j : Nat} {x : Str} {sp : Sp} (h : Cal P w K mg base k x sp) (hk : k ≤ j) {f : Addr} (hf : mg x = some (.ref f)) : Held P w K mg base j f sp := by
  obtain ⟨g, fd, ps, F, hm, kp, b⟩ := h.ex
  have e := hm.symm.trans hf
  cases e
  exact ⟨fd, ps, F.mono hk, kp, b⟩
end
section
variable {X : Cx} {k j : Nat} {C : Addr} {x m : Str} {sp : Sp} {p pos apos : Pos} {e o : Expr} {es : List Expr} {ta : TE} {t : TA}
theorem pe_c (h : Cal X.prog X.w X.K X.mg X.base k x sp) (hr : Room j X.A) (hk : k ≤ j) (hg : Gl X x) (ha : PA X (e :: es) t) (hdb : (x == ("__debug__" : Str)) = false := by decide)
    (he : starEach (e :: es) X.env = (false, eval e X.env) :: starEach es X.env := by rfl) (hpl : (backTo pos (starEach es X.env)).any (·.1) = false := by rfl) :
    PE X (.Call (.Name x p) (e :: es) [] pos) (tCall sp [] E0 t) := by
  obtain ⟨f, fd, ps, F, hm, kp, b⟩ := h.ex
  exact pe_call F (hr.mono hk) hg hm kp b .nil pass0 ha hdb he hpl
theorem pe_mk (h : Mak X.prog X.w X.K X.mg X.base k x C sp) (hr : Room j X.A) (hk : k + 1 ≤ j) (hg : Gl X x) (ha : PA X (e :: es) t) (hdb : (x == ("__debug__" : Str)) = false := by decide)
    (he : starEach (e :: es) X.env = (false, eval e X.env) :: starEach es X.env := by rfl) (hpl : (backTo pos (starEach es X.env)).any (·.1) = false := by rfl) :
    PE X (.Call (.Name x p) (e :: es) [] pos) (tMake C sp [] E0 t) := by
  obtain ⟨f, fd, ps, M, F, hm, b⟩ := h.ex
  exact pe_make M F (hr.mono hk) hg hm b .nil pass0 ha hdb he hpl
theorem pe_mk0 (h : Mak X.prog X.w X.K X.mg X.base k x C sp) (hr : Room j X.A) (hk : k + 1 ≤ j) (hg : Gl X x) (hdb : (x == ("__debug__" : Str)) = false := by decide) :
    PE X (.Call (.Name x p) [] [] pos) (tMake C sp [] E0 tNil) := by
  obtain ⟨f, fd, ps, M, F, hm, b⟩ := h.ex
  exact pe_make0 M F (hr.mono hk) hg hm b .nil pass0 hdb
theorem pe_mt {pl : Sem Bool} (h : Met X.prog X.w X.K X.mg X.base k C m sp) (hr : Room j X.A) (hk : k ≤ j) (he : PE X o ta) (ha : PA X (e :: es) t)
    (hst : starEach (e :: es) X.env = (false, eval e X.env) :: starEach es X.env := by rfl) (hpl : (backTo pos (starEach es X.env)).any (·.1) = false := by rfl)
    (ht : eval (.Call (.Attribute o m apos) (e :: es) [] pos) X.env = (eval o X.env >>= fun ov => standAt apos.atName >>= fun _ => holding [ov] (getMethod ov m pl) >>= fun (f, first) =>
      callWith pos f first (backTo pos (starEach (e :: es) X.env)) (backToKw pos (keywordEach [] X.env))) := by rfl) :
    PE X (.Call (.Attribute o m apos) (e :: es) [] pos) (tMeth C m sp [] E0 ta t) := by
  obtain ⟨f, fd, ps, hc, hm, F, b⟩ := h.ex
  exact pe_meth (pl := pl) he hc hm F (hr.mono hk) b .nil pass0 ha hst hpl ht
theorem pe_mt0 {pl : Sem Bool} (h : Met X.prog X.w X.K X.mg X.base k C m sp) (hr : Room j X.A) (hk : k ≤ j) (he : PE X o ta)
    (ht : eval (.Call (.Attribute o m apos) [] [] pos) X.env = (eval o X.env >>= fun ov => standAt apos.atName >>= fun _ => holding [ov] (getMethod ov m pl) >>= fun (f, first) =>
      callWith pos f first (backTo pos (starEach [] X.env)) (backToKw pos (keywordEach [] X.env))) := by rfl) :
    PE X (.Call (.Attribute o m apos) [] [] pos) (tMeth C m sp [] E0 ta tNil) := by
  obtain ⟨f, fd, ps, hc, hm, F, b⟩ := h.ex
  exact pe_meth0 (pl := pl) he hc hm F (hr.mono hk) b .nil pass0 ht
end
/-- what the defs ask of the top -/
structure Txt (K : PySem.W.Frag) (mg : Str → Option Value) (c : Cs) : Prop where
  clP : Cls K c.p
  clW : Cls K c.w
  n_node : NoAttr K c.p "node"
  n_lives : NoAttr K c.p "lives"
  n_why : NoAttr K c.p "why"
  n_traps : NoAttr K c.p "traps"
  n_links : NoAttr K c.p "links"
  n_watches : NoAttr K c.p "watches"
  n_watched_by : NoAttr K c.p "watched_by"
  n_box : NoAttr K c.p "box"
  n_processes : NoAttr K c.w "processes"
  n_air : NoAttr K c.w "air"
  n_last_number : NoAttr K c.w "last_number"
  n_connections : NoAttr K c.w "connections"
  n_last_connection : NoAttr K c.w "last_connection"
  n_broken : NoAttr K c.w "broken"
  k_HOLDS : Cst mg "HOLDS" (0)
  k_WORD_CAME : Cst mg "WORD_CAME" (0)
  k_LINKED_ONE_ENDED : Cst mg "LINKED_ONE_ENDED" (1)
  k_WATCHED_ONE_ENDED : Cst mg "WATCHED_ONE_ENDED" (2)
  k_END_WAS_SENT : Cst mg "END_WAS_SENT" (3)
  k_WORD : Cst mg "WORD" (0)
  k_LINK : Cst mg "LINK" (1)
  k_CUT : Cst mg "CUT" (2)
  k_HEARD : Cst mg "HEARD" (3)
  k_ENDED : Cst mg "ENDED" (4)
  k_STOP : Cst mg "STOP" (5)
  k_WATCH : Cst mg "WATCH" (6)
  k_UNWATCH : Cst mg "UNWATCH" (7)
  k_GONE : Cst mg "GONE" (8)
  k_AS_IT_SHOULD : Cst mg "AS_IT_SHOULD" (0)
  k_TO_BE_KILLED : Cst mg "TO_BE_KILLED" (1)
  k_KILLED : Cst mg "KILLED" (2)
  k_NOBODY_THERE : Cst mg "NOBODY_THERE" (3)
  k_CONNECTION_LOST : Cst mg "CONNECTION_LOST" (4)
  k_NO_CONNECTION : Cst mg "NO_CONNECTION" (0)
  k_WITHIN_A_NODE : Cst mg "WITHIN_A_NODE" (0)
  k_FITS : Cst mg "FITS" (0)
  k_NO_SUCH : Cst mg "NO_SUCH" (-1)
  k_NOT_SO_NOW : Cst mg "NOT_SO_NOW" (-4)
  k_NONE_ON_ITS_WAY : Cst mg "NONE_ON_ITS_WAY" (-5)
  k_TOO_MANY : Cst mg "TOO_MANY" (-6)
  k_HAS_ENDED : Cst mg "HAS_ENDED" (-8)
  k_NODES : Cst mg "NODES" (3)
  k_MOST_PROCESSES : Cst mg "MOST_PROCESSES" (12)
  k_MOST_SIGNALS : Cst mg "MOST_SIGNALS" (200)
  k_MOST_TURNS : Cst mg "MOST_TURNS" (1000)
  k_GREATEST_WHY : Cst mg "GREATEST_WHY" (99)
  k_LINKED : Cst mg "LINKED" (1)
  k_WATCHED : Cst mg "WATCHED" (2)
  m_len : mg "len" = none
  m_min : mg "min" = none
  m_max : mg "max" = none
  m_sorted : mg "sorted" = none
  m_list : mg "list" = none
  m_range : mg "range" = none
  m_enumerate : mg "enumerate" = none
  m_CALLS : mg "CALLS" = some (.ref c.calls)
  m_COUNTS : mg "COUNTS" = some (.ref c.counts)
  m_AT_ONE_WHO_LIVES : mg "AT_ONE_WHO_LIVES" = some (.ref c.live)
  t_COUNTS : ∀ H, SqT K H c.counts [ni 1, ni 2, ni 2, ni 2, ni 2, ni 2, ni 2, ni 3, ni 2, ni 3, ni 2, ni 1, ni 1, ni 1, ni 0, ni 2, ni 2, ni 2, ni 0]
  t_CALLS : ∀ H, SqT K H c.calls (c.fs.map V.ref)
  t_LIVE : ∀ H, SqT K H c.live (c.gs.map V.ref)
  l_fs : c.fs.length = 19
  f_start : ∃ f, c.fs[0]? = some f ∧ mg "start" = some (.ref f)
  f_child : ∃ f, c.fs[1]? = some f ∧ mg "child" = some (.ref f)
  f_link : ∃ f, c.fs[2]? = some f ∧ mg "link" = some (.ref f)
  f_cut : ∃ f, c.fs[3]? = some f ∧ mg "cut" = some (.ref f)
  f_watch : ∃ f, c.fs[4]? = some f ∧ mg "watch" = some (.ref f)
  f_unwatch : ∃ f, c.fs[5]? = some f ∧ mg "unwatch" = some (.ref f)
  f_ends : ∃ f, c.fs[6]? = some f ∧ mg "ends" = some (.ref f)
  f_stop : ∃ f, c.fs[7]? = some f ∧ mg "stop" = some (.ref f)
  f_trap : ∃ f, c.fs[8]? = some f ∧ mg "trap" = some (.ref f)
  f_say : ∃ f, c.fs[9]? = some f ∧ mg "say" = some (.ref f)
  f_deliver : ∃ f, c.fs[10]? = some f ∧ mg "deliver" = some (.ref f)
  f_turns : ∃ f, c.fs[11]? = some f ∧ mg "turns" = some (.ref f)
  f_box : ∃ f, c.fs[12]? = some f ∧ mg "box" = some (.ref f)
  f_process : ∃ f, c.fs[13]? = some f ∧ mg "process" = some (.ref f)
  f_air : ∃ f, c.fs[14]? = some f ∧ mg "air" = some (.ref f)
  f_break_wire : ∃ f, c.fs[15]? = some f ∧ mg "break_wire" = some (.ref f)
  f_notice : ∃ f, c.fs[16]? = some f ∧ mg "notice" = some (.ref f)
  f_join : ∃ f, c.fs[17]? = some f ∧ mg "join" = some (.ref f)
  f_wires : ∃ f, c.fs[18]? = some f ∧ mg "wires" = some (.ref f)
  l_gs : c.gs.length = 9
  f_word_arrives : ∃ f, c.gs[0]? = some f ∧ mg "word_arrives" = some (.ref f)
  f_link_arrives : ∃ f, c.gs[1]? = some f ∧ mg "link_arrives" = some (.ref f)
  f_cut_arrives : ∃ f, c.gs[2]? = some f ∧ mg "cut_arrives" = some (.ref f)
  f_heard_arrives : ∃ f, c.gs[3]? = some f ∧ mg "heard_arrives" = some (.ref f)
  f_ended_arrives : ∃ f, c.gs[4]? = some f ∧ mg "ended_arrives" = some (.ref f)
  f_stop_arrives : ∃ f, c.gs[5]? = some f ∧ mg "stop_arrives" = some (.ref f)
  f_watch_arrives : ∃ f, c.gs[6]? = some f ∧ mg "watch_arrives" = some (.ref f)
  f_unwatch_arrives : ∃ f, c.gs[7]? = some f ∧ mg "unwatch_arrives" = some (.ref f)
  f_gone_arrives : ∃ f, c.gs[8]? = some f ∧ mg "gone_arrives" = some (.ref f)
end PN
end
section
set_option maxRecDepth 100000
set_option maxHeartbeats 2000000
/-! The fields of the two kinds of objects. -/
namespace PN
open PySem PySem.Spec PyProof.Rows L2
open Ha05 (Proc Fly Sig Link Note flag)
theorem lk_hit {k : Str} {v : V} {r : List (Str × V)} : List.lookup k ((k, v) :: r) = some v := by simp [List.lookup]
theorem lk_miss {k g : Str} {v : V} {r : List (Str × V)} (h : (k == g) = false) : List.lookup k ((g, v) :: r) = List.lookup k r := by simp only [List.lookup, h]
theorem pt_hit {f : Str} {v x : V} {r : List (Str × V)} : putF f v ((f, x) :: r) = (f, v) :: r := if_pos rfl
theorem pt_miss {f g : Str} {v x : V} {r : List (Str × V)} (h : ¬ g = f) : putF f v ((g, x) :: r) = (g, x) :: putF f v r := if_neg h
theorem pt_nil {f : Str} {v : V} : putF f v [] = [(f, v)] := rfl
section
variable {l : PL} {x : Proc} {L : Lay} {s : Ha05.St} {v : V}
theorem pF_node : (pF l x).lookup ("node" : Str) = some (ni x.node) := lk_hit
theorem pF_lives : (pF l x).lookup ("lives" : Str) = some (.bl x.lives) := (lk_miss (by decide +kernel)).trans (lk_hit)
theorem pF_why : (pF l x).lookup ("why" : Str) = some (ni x.why) := (lk_miss (by decide +kernel)).trans ((lk_miss (by decide +kernel)).trans (lk_hit))
theorem pF_traps : (pF l x).lookup ("traps" : Str) = some (ni (flag x.traps)) := (lk_miss (by decide +kernel)).trans ((lk_miss (by decide +kernel)).trans ((lk_miss (by decide +kernel)).trans (lk_hit)))
theorem pF_links : (pF l x).lookup ("links" : Str) = some (.ref l.li) := (lk_miss (by decide +kernel)).trans ((lk_miss (by decide +kernel)).trans ((lk_miss (by decide +kernel)).trans ((lk_miss (by decide +kernel)).trans (lk_hit))))
theorem pF_watches : (pF l x).lookup ("watches" : Str) = some (.ref l.wa) := (lk_miss (by decide +kernel)).trans ((lk_miss (by decide +kernel)).trans ((lk_miss (by decide +kernel)).trans ((lk_miss (by decide +kernel)).trans ((lk_miss (by decide +kernel)).trans (lk_hit)))))
theorem pF_watched_by : (pF l x).lookup ("watched_by" : Str) = some (.ref l.wd) := (lk_miss (by decide +kernel)).trans ((lk_miss (by decide +kernel)).trans ((lk_miss (by decide +kernel)).trans ((lk_miss (by decide +kernel)).trans ((lk_miss (by decide +kernel)).trans ((lk_miss (by decide +kernel)).trans (lk_hit))))))
theorem pF_box : (pF l x).lookup ("box" : Str) = some (.ref l.bx) := (lk_miss (by decide +kernel)).trans ((lk_miss (by decide +kernel)).trans ((lk_miss (by decide +kernel)).trans ((lk_miss (by decide +kernel)).trans ((lk_miss (by decide +kernel)).trans ((lk_miss (by decide +kernel)).trans ((lk_miss (by decide +kernel)).trans (lk_hit)))))))
theorem wF_processes : (wF L s).lookup ("processes" : Str) = some (.ref L.pr) := lk_hit
theorem wF_air : (wF L s).lookup ("air" : Str) = some (.ref L.ai) := (lk_miss (by decide +kernel)).trans (lk_hit)
theorem wF_last_number : (wF L s).lookup ("last_number" : Str) = some (ni s.last) := (lk_miss (by decide +kernel)).trans ((lk_miss (by decide +kernel)).trans (lk_hit))
theorem wF_connections : (wF L s).lookup ("connections" : Str) = some (.ref L.cn) := (lk_miss (by decide +kernel)).trans ((lk_miss (by decide +kernel)).trans ((lk_miss (by decide +kernel)).trans (lk_hit)))
theorem wF_last_connection : (wF L s).lookup ("last_connection" : Str) = some (ni s.conns) := (lk_miss (by decide +kernel)).trans ((lk_miss (by decide +kernel)).trans ((lk_miss (by decide +kernel)).trans ((lk_miss (by decide +kernel)).trans (lk_hit))))
theorem wF_broken : (wF L s).lookup ("broken" : Str) = some (.ref L.br) := (lk_miss (by decide +kernel)).trans ((lk_miss (by decide +kernel)).trans ((lk_miss (by decide +kernel)).trans ((lk_miss (by decide +kernel)).trans ((lk_miss (by decide +kernel)).trans (lk_hit)))))
theorem pF_m_link_holds : (pF l x).lookup ("link_holds" : Str) = none := (lk_miss (by decide +kernel)).trans ((lk_miss (by decide +kernel)).trans ((lk_miss (by decide +kernel)).trans ((lk_miss (by decide +kernel)).trans ((lk_miss (by decide +kernel)).trans ((lk_miss (by decide +kernel)).trans ((lk_miss (by decide +kernel)).trans ((lk_miss (by decide +kernel)).trans (rfl))))))))
theorem pF_m_end_with : (pF l x).lookup ("end_with" : Str) = none := (lk_miss (by decide +kernel)).trans ((lk_miss (by decide +kernel)).trans ((lk_miss (by decide +kernel)).trans ((lk_miss (by decide +kernel)).trans ((lk_miss (by decide +kernel)).trans ((lk_miss (by decide +kernel)).trans ((lk_miss (by decide +kernel)).trans ((lk_miss (by decide +kernel)).trans (rfl))))))))
theorem wF_m_has_process : (wF L s).lookup ("has_process" : Str) = none := (lk_miss (by decide +kernel)).trans ((lk_miss (by decide +kernel)).trans ((lk_miss (by decide +kernel)).trans ((lk_miss (by decide +kernel)).trans ((lk_miss (by decide +kernel)).trans ((lk_miss (by decide +kernel)).trans (rfl))))))
theorem wF_m_process : (wF L s).lookup ("process" : Str) = none := (lk_miss (by decide +kernel)).trans ((lk_miss (by decide +kernel)).trans ((lk_miss (by decide +kernel)).trans ((lk_miss (by decide +kernel)).trans ((lk_miss (by decide +kernel)).trans ((lk_miss (by decide +kernel)).trans (rfl))))))
theorem wF_m_new_process : (wF L s).lookup ("new_process" : Str) = none := (lk_miss (by decide +kernel)).trans ((lk_miss (by decide +kernel)).trans ((lk_miss (by decide +kernel)).trans ((lk_miss (by decide +kernel)).trans ((lk_miss (by decide +kernel)).trans ((lk_miss (by decide +kernel)).trans (rfl))))))
theorem wF_m_new_number : (wF L s).lookup ("new_number" : Str) = none := (lk_miss (by decide +kernel)).trans ((lk_miss (by decide +kernel)).trans ((lk_miss (by decide +kernel)).trans ((lk_miss (by decide +kernel)).trans ((lk_miss (by decide +kernel)).trans ((lk_miss (by decide +kernel)).trans (rfl))))))
theorem wF_m_new_connection : (wF L s).lookup ("new_connection" : Str) = none := (lk_miss (by decide +kernel)).trans ((lk_miss (by decide +kernel)).trans ((lk_miss (by decide +kernel)).trans ((lk_miss (by decide +kernel)).trans ((lk_miss (by decide +kernel)).trans ((lk_miss (by decide +kernel)).trans (rfl))))))
theorem wF_m_send : (wF L s).lookup ("send" : Str) = none := (lk_miss (by decide +kernel)).trans ((lk_miss (by decide +kernel)).trans ((lk_miss (by decide +kernel)).trans ((lk_miss (by decide +kernel)).trans ((lk_miss (by decide +kernel)).trans ((lk_miss (by decide +kernel)).trans (rfl))))))
theorem wF_m_send_back : (wF L s).lookup ("send_back" : Str) = none := (lk_miss (by decide +kernel)).trans ((lk_miss (by decide +kernel)).trans ((lk_miss (by decide +kernel)).trans ((lk_miss (by decide +kernel)).trans ((lk_miss (by decide +kernel)).trans ((lk_miss (by decide +kernel)).trans (rfl))))))
theorem wF_m_end : (wF L s).lookup ("end" : Str) = none := (lk_miss (by decide +kernel)).trans ((lk_miss (by decide +kernel)).trans ((lk_miss (by decide +kernel)).trans ((lk_miss (by decide +kernel)).trans ((lk_miss (by decide +kernel)).trans ((lk_miss (by decide +kernel)).trans (rfl))))))
theorem wF_m_end_comes : (wF L s).lookup ("end_comes" : Str) = none := (lk_miss (by decide +kernel)).trans ((lk_miss (by decide +kernel)).trans ((lk_miss (by decide +kernel)).trans ((lk_miss (by decide +kernel)).trans ((lk_miss (by decide +kernel)).trans ((lk_miss (by decide +kernel)).trans (rfl))))))
def pR (v0 v1 v2 v3 v4 v5 v6 v7 : V) : List (Str × V) := [("node", v0), ("lives", v1), ("why", v2), ("traps", v3), ("links", v4), ("watches", v5), ("watched_by", v6), ("box", v7)]
def wR (v0 v1 v2 v3 v4 v5 : V) : List (Str × V) := [("processes", v0), ("air", v1), ("last_number", v2), ("connections", v3), ("last_connection", v4), ("broken", v5)]
theorem pF_eq : pF l x = pR (ni x.node) (.bl x.lives) (ni x.why) (ni (flag x.traps)) (.ref l.li) (.ref l.wa) (.ref l.wd) (.ref l.bx) := rfl
theorem wF_eq : wF L s = wR (.ref L.pr) (.ref L.ai) (ni s.last) (.ref L.cn) (ni s.conns) (.ref L.br) := rfl
theorem pR_p_lives {v0 v1 v2 v3 v4 v5 v6 v7 : V} : putF "lives" v (pR v0 v1 v2 v3 v4 v5 v6 v7) = pR v0 v v2 v3 v4 v5 v6 v7 := (pt_miss (by decide +kernel)).trans (congrArg _ (pt_hit))
theorem pR_p_why {v0 v1 v2 v3 v4 v5 v6 v7 : V} : putF "why" v (pR v0 v1 v2 v3 v4 v5 v6 v7) = pR v0 v1 v v3 v4 v5 v6 v7 := (pt_miss (by decide +kernel)).trans (congrArg _ ((pt_miss (by decide +kernel)).trans (congrArg _ (pt_hit))))
theorem pR_p_traps {v0 v1 v2 v3 v4 v5 v6 v7 : V} : putF "traps" v (pR v0 v1 v2 v3 v4 v5 v6 v7) = pR v0 v1 v2 v v4 v5 v6 v7 := (pt_miss (by decide +kernel)).trans (congrArg _ ((pt_miss (by decide +kernel)).trans (congrArg _ ((pt_miss (by decide +kernel)).trans (congrArg _ (pt_hit))))))
theorem pR_p_links {v0 v1 v2 v3 v4 v5 v6 v7 : V} : putF "links" v (pR v0 v1 v2 v3 v4 v5 v6 v7) = pR v0 v1 v2 v3 v v5 v6 v7 := (pt_miss (by decide +kernel)).trans (congrArg _ ((pt_miss (by decide +kernel)).trans (congrArg _ ((pt_miss (by decide +kernel)).trans (congrArg _ ((pt_miss (by decide +kernel)).trans (congrArg _ (pt_hit))))))))
theorem pR_p_watches {v0 v1 v2 v3 v4 v5 v6 v7 : V} : putF "watches" v (pR v0 v1 v2 v3 v4 v5 v6 v7) = pR v0 v1 v2 v3 v4 v v6 v7 := (pt_miss (by decide +kernel)).trans (congrArg _ ((pt_miss (by decide +kernel)).trans (congrArg _ ((pt_miss (by decide +kernel)).trans (congrArg _ ((pt_miss (by decide +kernel)).trans (congrArg _ ((pt_miss (by decide +kernel)).trans (congrArg _ (pt_hit))))))))))
theorem pR_p_watched_by {v0 v1 v2 v3 v4 v5 v6 v7 : V} : putF "watched_by" v (pR v0 v1 v2 v3 v4 v5 v6 v7) = pR v0 v1 v2 v3 v4 v5 v v7 := (pt_miss (by decide +kernel)).trans (congrArg _ ((pt_miss (by decide +kernel)).trans (congrArg _ ((pt_miss (by decide +kernel)).trans (congrArg _ ((pt_miss (by decide +kernel)).trans (congrArg _ ((pt_miss (by decide +kernel)).trans (congrArg _ ((pt_miss (by decide +kernel)).trans (congrArg _ (pt_hit))))))))))))
theorem wR_p_last_number {v0 v1 v2 v3 v4 v5 : V} : putF "last_number" v (wR v0 v1 v2 v3 v4 v5) = wR v0 v1 v v3 v4 v5 := (pt_miss (by decide +kernel)).trans (congrArg _ ((pt_miss (by decide +kernel)).trans (congrArg _ (pt_hit))))
theorem wR_p_last_connection {v0 v1 v2 v3 v4 v5 : V} : putF "last_connection" v (wR v0 v1 v2 v3 v4 v5) = wR v0 v1 v2 v3 v v5 := (pt_miss (by decide +kernel)).trans (congrArg _ ((pt_miss (by decide +kernel)).trans (congrArg _ ((pt_miss (by decide +kernel)).trans (congrArg _ ((pt_miss (by decide +kernel)).trans (congrArg _ (pt_hit))))))))
theorem pR_new {v0 v1 v2 v3 v4 v5 v6 v7 : V} : putF "box" v7 (putF "watched_by" v6 (putF "watches" v5 (putF "links" v4 (putF "traps" v3 (putF "why" v2 (putF "lives" v1 (putF "node" v0 (([] : List (Str × V)))))))))) = pR v0 v1 v2 v3 v4 v5 v6 v7 := by
  have e0 : putF "node" v0 ([] : List (Str × V)) = ([("node", v0)] : List (Str × V)) := pt_nil
  have e1 : putF "lives" v1 ([("node", v0)] : List (Str × V)) = ([("node", v0), ("lives", v1)] : List (Str × V)) := (pt_miss (by decide +kernel)).trans (congrArg _ (pt_nil))
  have e2 : putF "why" v2 ([("node", v0), ("lives", v1)] : List (Str × V)) = ([("node", v0), ("lives", v1), ("why", v2)] : List (Str × V)) := (pt_miss (by decide +kernel)).trans (congrArg _ ((pt_miss (by decide +kernel)).trans (congrArg _ (pt_nil))))
  have e3 : putF "traps" v3 ([("node", v0), ("lives", v1), ("why", v2)] : List (Str × V)) = ([("node", v0), ("lives", v1), ("why", v2), ("traps", v3)] : List (Str × V)) := (pt_miss (by decide +kernel)).trans (congrArg _ ((pt_miss (by decide +kernel)).trans (congrArg _ ((pt_miss (by decide +kernel)).trans (congrArg _ (pt_nil))))))
  have e4 : putF "links" v4 ([("node", v0), ("lives", v1), ("why", v2), ("traps", v3)] : List (Str × V)) = ([("node", v0), ("lives", v1), ("why", v2), ("traps", v3), ("links", v4)] : List (Str × V)) := (pt_miss (by decide +kernel)).trans (congrArg _ ((pt_miss (by decide +kernel)).trans (congrArg _ ((pt_miss (by decide +kernel)).trans (congrArg _ ((pt_miss (by decide +kernel)).trans (congrArg _ (pt_nil))))))))
  have e5 : putF "watches" v5 ([("node", v0), ("lives", v1), ("why", v2), ("traps", v3), ("links", v4)] : List (Str × V)) = ([("node", v0), ("lives", v1), ("why", v2), ("traps", v3), ("links", v4), ("watches", v5)] : List (Str × V)) := (pt_miss (by decide +kernel)).trans (congrArg _ ((pt_miss (by decide +kernel)).trans (congrArg _ ((pt_miss (by decide +kernel)).trans (congrArg _ ((pt_miss (by decide +kernel)).trans (congrArg _ ((pt_miss (by decide +kernel)).trans (congrArg _ (pt_nil))))))))))
  have e6 : putF "watched_by" v6 ([("node", v0), ("lives", v1), ("why", v2), ("traps", v3), ("links", v4), ("watches", v5)] : List (Str × V)) = ([("node", v0), ("lives", v1), ("why", v2), ("traps", v3), ("links", v4), ("watches", v5), ("watched_by", v6)] : List (Str × V)) := (pt_miss (by decide +kernel)).trans (congrArg _ ((pt_miss (by decide +kernel)).trans (congrArg _ ((pt_miss (by decide +kernel)).trans (congrArg _ ((pt_miss (by decide +kernel)).trans (congrArg _ ((pt_miss (by decide +kernel)).trans (congrArg _ ((pt_miss (by decide +kernel)).trans (congrArg _ (pt_nil))))))))))))
  have e7 : putF "box" v7 ([("node", v0), ("lives", v1), ("why", v2), ("traps", v3), ("links", v4), ("watches", v5), ("watched_by", v6)] : List (Str × V)) = ([("node", v0), ("lives", v1), ("why", v2), ("traps", v3), ("links", v4), ("watches", v5), ("watched_by", v6), ("box", v7)] : List (Str × V)) := (pt_miss (by decide +kernel)).trans (congrArg _ ((pt_miss (by decide +kernel)).trans (congrArg _ ((pt_miss (by decide +kernel)).trans (congrArg _ ((pt_miss (by decide +kernel)).trans (congrArg _ ((pt_miss (by decide +kernel)).trans (congrArg _ ((pt_miss (by decide +kernel)).trans (congrArg _ ((pt_miss (by decide +kernel)).trans (congrArg _ (pt_nil))))))))))))))
  rw [e0, e1, e2, e3, e4, e5, e6, e7]
  rfl
theorem wR_new {v0 v1 v2 v3 v4 v5 : V} : putF "broken" v5 (putF "last_connection" v4 (putF "connections" v3 (putF "last_number" v2 (putF "air" v1 (putF "processes" v0 (([] : List (Str × V)))))))) = wR v0 v1 v2 v3 v4 v5 := by
  have e0 : putF "processes" v0 ([] : List (Str × V)) = ([("processes", v0)] : List (Str × V)) := pt_nil
  have e1 : putF "air" v1 ([("processes", v0)] : List (Str × V)) = ([("processes", v0), ("air", v1)] : List (Str × V)) := (pt_miss (by decide +kernel)).trans (congrArg _ (pt_nil))
  have e2 : putF "last_number" v2 ([("processes", v0), ("air", v1)] : List (Str × V)) = ([("processes", v0), ("air", v1), ("last_number", v2)] : List (Str × V)) := (pt_miss (by decide +kernel)).trans (congrArg _ ((pt_miss (by decide +kernel)).trans (congrArg _ (pt_nil))))
  have e3 : putF "connections" v3 ([("processes", v0), ("air", v1), ("last_number", v2)] : List (Str × V)) = ([("processes", v0), ("air", v1), ("last_number", v2), ("connections", v3)] : List (Str × V)) := (pt_miss (by decide +kernel)).trans (congrArg _ ((pt_miss (by decide +kernel)).trans (congrArg _ ((pt_miss (by decide +kernel)).trans (congrArg _ (pt_nil))))))
  have e4 : putF "last_connection" v4 ([("processes", v0), ("air", v1), ("last_number", v2), ("connections", v3)] : List (Str × V)) = ([("processes", v0), ("air", v1), ("last_number", v2), ("connections", v3), ("last_connection", v4)] : List (Str × V)) := (pt_miss (by decide +kernel)).trans (congrArg _ ((pt_miss (by decide +kernel)).trans (congrArg _ ((pt_miss (by decide +kernel)).trans (congrArg _ ((pt_miss (by decide +kernel)).trans (congrArg _ (pt_nil))))))))
  have e5 : putF "broken" v5 ([("processes", v0), ("air", v1), ("last_number", v2), ("connections", v3), ("last_connection", v4)] : List (Str × V)) = ([("processes", v0), ("air", v1), ("last_number", v2), ("connections", v3), ("last_connection", v4), ("broken", v5)] : List (Str × V)) := (pt_miss (by decide +kernel)).trans (congrArg _ ((pt_miss (by decide +kernel)).trans (congrArg _ ((pt_miss (by decide +kernel)).trans (congrArg _ ((pt_miss (by decide +kernel)).trans (congrArg _ ((pt_miss (by decide +kernel)).trans (congrArg _ (pt_nil))))))))))
  rw [e0, e1, e2, e3, e4, e5]
  rfl
end
end PN
end
section
set_option maxRecDepth 100000
set_option maxHeartbeats 2000000
/-! What a store changes of a world. -/
namespace PN
open PySem PySem.Spec PyProof.Rows L2
open Ha05 (Proc Fly Sig Link Note flag sigTold proc setProc notes)
section
variable {c : Cs} {H : Hp} {L : Lay} {s : Ha05.St} {p : Nat} {l : PL}
theorem PL.nd (h : l.ads.Nodup) : l.a ≠ l.li ∧ l.a ≠ l.wa ∧ l.a ≠ l.wd ∧ l.a ≠ l.bx ∧ l.li ≠ l.wa ∧ l.li ≠ l.wd ∧ l.li ≠ l.bx ∧ l.wa ≠ l.wd ∧ l.wa ≠ l.bx ∧ l.wd ≠ l.bx := by
  simp only [PL.ads, List.nodup_cons, List.mem_cons, List.not_mem_nil, or_false, not_or] at h
  obtain ⟨⟨a1, a2, a3, a4⟩, ⟨b1, b2, b3⟩, ⟨c1, c2⟩, d1, _⟩ := h
  exact ⟨a1, a2, a3, a4, b1, b2, b3, c1, c2, d1⟩
theorem setp_self (hl : L.ps[p - 1]? = some l) : L.setp p l = L := by
  unfold Lay.setp
  have e : L.ps.set (p - 1) l = L.ps := by
    apply List.ext_getElem?
    intro i
    rw [List.getElem?_set]
    split
    · rename_i e
      split
      · subst e; exact hl.symm
      · rename_i n
        have := (List.getElem?_eq_some_iff.mp hl).1
        omega
    · rfl
  rw [e]
/-- one place of the process alone -/
theorem WRep.one (R : WRep c H L s) (hl : L.ps[p - 1]? = some l) {q : Addr} {o : HO} {x' : Proc} (hq : q ∈ l.ads) (hP : PRep c (L2.upd H q o) l x') :
    WRep c (L2.upd H q o) L (setProc s p x') ∧ Step H L (L2.upd H q o) L := by
  have h := R.setp (p := p) (l := l) (l' := l) (x' := x') (H' := L2.upd H q o) hl rfl (fun b u e n => by
    have z : b ≠ q := fun z => n (by rw [z]; exact hq)
    rw [upd_ne z]; exact e) (Lay.own R.nd hl) (fun b hb => .inl hb) hP
  rw [setp_self hl] at h
  exact h
theorem PRep.tups {x : Proc} (P : PRep c H l x) {q : Addr} {o : HO} (hq : q ∈ l.ads) : Tups H (upd H q o) := tups_upd fun xs e => by
  obtain ⟨u, e2, n⟩ := P.box q hq
  rw [e] at e2
  exact n xs (Option.some.inj e2).symm
theorem WRep.note (R : WRep c H L s) (hl : L.ps[p - 1]? = some l) (P : PRep c H l (proc s p)) {vs : List V} {g : Addr} {n : Note} (hb : H l.bx = some (.lst vs)) (hv : Paired (NoteAt H) (proc s p).box vs) (hg : H g = some (.tup [ni n.what, ni n.who, ni n.n])) :
    WRep c (L2.upd H l.bx (.lst (vs ++ [.ref g]))) L (setProc s p (notes (proc s p) n)) ∧ Step H L (L2.upd H l.bx (.lst (vs ++ [.ref g]))) L := by
  obtain ⟨n1, n2, n3, n4, n5, n6, n7, n8, n9, n10⟩ := PL.nd (Lay.own R.nd hl)
  have mb : l.bx ∈ l.ads := by simp [PL.ads]
  have t := P.tups (o := .lst (vs ++ [.ref g])) mb
  obtain ⟨dx, h1⟩ := P.ins
  obtain ⟨kvs, h2, h2'⟩ := P.li
  exact R.one hl mb ⟨⟨dx, (upd_ne n4).trans h1⟩, ⟨kvs, (upd_ne n7).trans h2, h2'⟩, (upd_ne n9).trans P.wa, (upd_ne n10).trans P.wd, ⟨_, upd_same, Paired.snoc (notes_mono t hv) ⟨g, rfl, t _ _ hg⟩⟩⟩
theorem WRep.linked (R : WRep c H L s) (hl : L.ps[p - 1]? = some l) (P : PRep c H l (proc s p)) {kvs : List (Key × V)} {ls : List Link} (hk : kvs.Perm (kvL ls)) :
    WRep c (L2.upd H l.li (.dK kvs)) L (setProc s p { proc s p with links := ls }) ∧ Step H L (L2.upd H l.li (.dK kvs)) L := by
  obtain ⟨n1, n2, n3, n4, n5, n6, n7, n8, n9, n10⟩ := PL.nd (Lay.own R.nd hl)
  have mb : l.li ∈ l.ads := by simp [PL.ads]
  have t := P.tups (o := .dK kvs) mb
  obtain ⟨dx, h1⟩ := P.ins
  obtain ⟨vs, h3, h3'⟩ := P.bx
  exact R.one hl mb ⟨⟨dx, (upd_ne n1).trans h1⟩, ⟨kvs, upd_same, hk⟩, (upd_ne (Ne.symm n5)).trans P.wa, (upd_ne (Ne.symm n6)).trans P.wd, ⟨vs, (upd_ne (Ne.symm n7)).trans h3, notes_mono t h3'⟩⟩
theorem WRep.watching (R : WRep c H L s) (hl : L.ps[p - 1]? = some l) (P : PRep c H l (proc s p)) {ws : List (Nat × Nat)} :
    WRep c (L2.upd H l.wa (.dK (kvW ws))) L (setProc s p { proc s p with watches := ws }) ∧ Step H L (L2.upd H l.wa (.dK (kvW ws))) L := by
  obtain ⟨n1, n2, n3, n4, n5, n6, n7, n8, n9, n10⟩ := PL.nd (Lay.own R.nd hl)
  have mb : l.wa ∈ l.ads := by simp [PL.ads]
  have t := P.tups (o := .dK (kvW ws)) mb
  obtain ⟨dx, h1⟩ := P.ins
  obtain ⟨kvs, h2, h2'⟩ := P.li
  obtain ⟨vs, h3, h3'⟩ := P.bx
  exact R.one hl mb ⟨⟨dx, (upd_ne n2).trans h1⟩, ⟨kvs, (upd_ne n5).trans h2, h2'⟩, upd_same, (upd_ne (Ne.symm n8)).trans P.wd, ⟨vs, (upd_ne (Ne.symm n9)).trans h3, notes_mono t h3'⟩⟩
theorem WRep.watched (R : WRep c H L s) (hl : L.ps[p - 1]? = some l) (P : PRep c H l (proc s p)) {ws : List (Nat × Nat)} :
    WRep c (L2.upd H l.wd (.dK (kvW ws))) L (setProc s p { proc s p with watched := ws }) ∧ Step H L (L2.upd H l.wd (.dK (kvW ws))) L := by
  obtain ⟨n1, n2, n3, n4, n5, n6, n7, n8, n9, n10⟩ := PL.nd (Lay.own R.nd hl)
  have mb : l.wd ∈ l.ads := by simp [PL.ads]
  have t := P.tups (o := .dK (kvW ws)) mb
  obtain ⟨dx, h1⟩ := P.ins
  obtain ⟨kvs, h2, h2'⟩ := P.li
  obtain ⟨vs, h3, h3'⟩ := P.bx
  exact R.one hl mb ⟨⟨dx, (upd_ne n3).trans h1⟩, ⟨kvs, (upd_ne n6).trans h2, h2'⟩, (upd_ne n8).trans P.wa, upd_same, ⟨vs, (upd_ne (Ne.symm n10)).trans h3, notes_mono t h3'⟩⟩
theorem WRep.trapping (R : WRep c H L s) (hl : L.ps[p - 1]? = some l) (P : PRep c H l (proc s p)) {dx : Addr} {b : Bool} :
    WRep c (L2.upd H l.a (.ins c.p dx (pF l { proc s p with traps := b }))) L (setProc s p { proc s p with traps := b }) ∧ Step H L (L2.upd H l.a (.ins c.p dx (pF l { proc s p with traps := b }))) L := by
  obtain ⟨n1, n2, n3, n4, n5, n6, n7, n8, n9, n10⟩ := PL.nd (Lay.own R.nd hl)
  have mb : l.a ∈ l.ads := by simp [PL.ads]
  have t := P.tups (o := .ins c.p dx (pF l { proc s p with traps := b })) mb
  obtain ⟨kvs, h2, h2'⟩ := P.li
  obtain ⟨vs, h3, h3'⟩ := P.bx
  exact R.one hl mb ⟨⟨dx, upd_same⟩, ⟨kvs, (upd_ne (Ne.symm n1)).trans h2, h2'⟩, (upd_ne (Ne.symm n2)).trans P.wa, (upd_ne (Ne.symm n3)).trans P.wd, ⟨vs, (upd_ne (Ne.symm n4)).trans h3, notes_mono t h3'⟩⟩
/-- it ends: three new dicts -/
theorem WRep.ended (R : WRep c H L s) (hl : L.ps[p - 1]? = some l) (P : PRep c H l (proc s p)) {H' : Hp} {dx d1 d2 d3 : Addr} {why : Nat} (m1 : H d1 = none) (m2 : H d2 = none) (m3 : H d3 = none) (x12 : d1 ≠ d2) (x13 : d1 ≠ d3) (x23 : d2 ≠ d3)
    (hk : ∀ b o, H b = some o → b ≠ l.a → H' b = some o) (hi : H' l.a = some (.ins c.p dx (pF ⟨l.a, d1, d2, d3, l.bx⟩ (deadOf (proc s p) why)))) (h1 : H' d1 = some (.dK [])) (h2 : H' d2 = some (.dK [])) (h3 : H' d3 = some (.dK [])) :
    WRep c H' (L.setp p ⟨l.a, d1, d2, d3, l.bx⟩) (setProc s p (deadOf (proc s p) why)) ∧ Step H L H' (L.setp p ⟨l.a, d1, d2, d3, l.bx⟩) := by
  obtain ⟨n1, n2, n3, n4, n5, n6, n7, n8, n9, n10⟩ := PL.nd (Lay.own R.nd hl)
  obtain ⟨ex, g1⟩ := P.ins
  obtain ⟨vs, g3, g3'⟩ := P.bx
  have ma : l.a ∈ l.ads := by simp [PL.ads]
  have t : Tups H H' := fun b xs e => hk b _ e fun z => by rw [z, g1] at e; cases e
  refine R.setp hl rfl (fun b o e n => hk b o e fun z => n (by rw [z]; exact ma)) ?_ ?_ ⟨⟨dx, hi⟩, ⟨[], h1, List.Perm.refl _⟩, h2, h3, ⟨vs, hk _ _ g3 (Ne.symm n4), notes_mono t g3'⟩⟩
  · have a1 : l.a ≠ d1 := ne_of_none g1 m1
    have a2 : l.a ≠ d2 := ne_of_none g1 m2
    have a3 : l.a ≠ d3 := ne_of_none g1 m3
    have b1 : l.bx ≠ d1 := ne_of_none g3 m1
    have b2 : l.bx ≠ d2 := ne_of_none g3 m2
    have b3 : l.bx ≠ d3 := ne_of_none g3 m3
    simp only [PL.ads, List.nodup_cons, List.mem_cons, List.not_mem_nil, or_false, not_or, List.nodup_nil, and_true, not_false_eq_true]
    exact ⟨⟨a1, a2, a3, n4⟩, ⟨x12, x13, Ne.symm b1⟩, ⟨x23, Ne.symm b2⟩, Ne.symm b3⟩
  · intro b hb
    simp only [PL.ads, List.mem_cons, List.not_mem_nil, or_false] at hb
    rcases hb with e | e | e | e | e
    · exact .inl (e ▸ ma)
    · exact .inr (e ▸ m1)
    · exact .inr (e ▸ m2)
    · exact .inr (e ▸ m3)
    · exact .inl (by rw [e]; simp [PL.ads])
end
end PN
end
section
set_option maxRecDepth 100000
set_option maxHeartbeats 2000000
/-! The small defs. -/
namespace PN
open PySem PySem.Spec PyProof.Rows L2
open Ha05 (Proc Fly Sig Link Note flag sigTold)
theorem if_yes {b : Bool} {A B : Prop} (hb : b = true) (h : A) : if b = true then A else B := by rw [if_pos hb]; exact h
theorem if_no {b : Bool} {A B : Prop} (hb : b = false) (h : B) : if b = true then A else B := by rw [hb, if_neg Bool.false_ne_true]; exact h
theorem upd_new {H : Hp} {a q : Addr} {o u : HO} (h : H a = some o) (n : H q = none) : upd H q u a = some o := (upd_ne (ne_of_none h n)).trans h
theorem new_ne {H : Hp} {a q : Addr} {u : HO} (h : upd H q u a = none) : a ≠ q := fun e => by
  rw [e, upd_same] at h
  cases h
theorem new_old {H : Hp} {a q : Addr} {u : HO} (h : upd H q u a = none) : H a = none := by
  rw [upd_ne (new_ne h)] at h
  exact h
theorem lp {f : Str} {v : V} {fs : List (Str × V)} {n : Nat} (h : fs.length ≤ n) : (putF f v fs).length ≤ n + 1 := Nat.le_trans (length_putF f v fs) (Nat.succ_le_succ h)
theorem lq {n : Nat} {fs : List (Str × V)} (h : fs.length ≤ n) (k : n < 1000 := by decide) : fs.length < 1000 := Nat.lt_of_le_of_lt h k
theorem pF_len {l : PL} {x : Proc} : (pF l x).length ≤ 8 := Nat.le_refl _
theorem wF_len {L : Lay} {s : Ha05.St} : (wF L s).length ≤ 6 := Nat.le_refl _
section
variable {P : Program} {w : World} {K : PySem.W.Frag} {mg : Str → Option Value} {base : Heap} {c : Cs}
/-- q in links and links[q] == HOLDS -/
def spHolds (c : Cs) : Sp := fun vs H Q _ => ∃ (a dx li : Addr) (fs : List (Str × V)) (kvs : List (Key × V)) (q : Int), vs = [.ref a, .int q] ∧ H a = some (.ins c.p dx fs) ∧ fs.lookup ("links" : Str) = some (.ref li) ∧ H li = some (.dK kvs) ∧
  (∀ v, valV kvs (Sum.inl q) = some v → ∃ n : Int, v = .int n) ∧ Q (.bl (decide (valV kvs (Sum.inl q) = some (.int 0)))) H
theorem met_holds (T : Txt K mg c) (D : Dme K c.p "link_holds" "Process.link_holds" s_Process_link_holds) : Met P w K mg base 1 c.p "link_holds" (spHolds c) := by
  refine met_of T.clP D sc_Process_link_holds (fun _ _ _ _ _ _ us hl => match us, hl with | [_, _], _ => rfl) (fun vs H Q E h => ?_) (fun f cdv A outer s H vs Q E hr h => ?_)
  · obtain ⟨_, _, _, _, _, _, rfl, _⟩ := h; rfl
  · have hu := hu_of hr
    obtain ⟨a, dx, li, fs, kvs, q, rfl, h1, h2, h3, h4, hQ⟩ := h
    refine ⟨_, (pss_one (ps_ret (pe_and (pe_cmp (pc_din hu (pv 1) (pe_fld (pv 0) rfl))) (pe_one (pe_cmpR op_eq (pe_dget hu (pe_fld (pv 0) rfl) (pv 1) (fun _ _ => rfl)) (pe_k T.k_HOLDS rfl) (nomark _)))))), ?_⟩
    refine ⟨_, rfl, _, rfl, a, c.p, dx, fs, _, rfl, h1, T.clP, T.n_links, h2, li, _, rfl, DGet.k (k := Sum.inl q) h3, _, rfl, ?_⟩
    cases e : valV kvs (Sum.inl q) with
    | none =>
      rw [e] at hQ
      exact iteF hQ
    | some v =>
      obtain ⟨n, rfl⟩ := h4 v e
      refine iteT ⟨_, rfl, a, c.p, dx, fs, _, rfl, h1, T.clP, T.n_links, h2, _, rfl, li, _, rfl, e ▸ DGet.k (k := Sum.inl q) h3, rfl, ?_⟩
      rw [e] at hQ
      have eq : decide (V.int n = V.int 0) = decide (some (V.int n) = some (V.int 0)) := by
        by_cases z : n = 0
        · simp [z]
        · simp [z]
      rw [eq]
      exact hQ
/-- a process ends: three new dicts -/
def spEndWith (c : Cs) : Sp := fun vs H Q _ => ∃ (l : PL) (dx : Addr) (x : Proc) (why : Nat), vs = [.ref l.a, ni why] ∧ H l.a = some (.ins c.p dx (pF l x)) ∧
  ∀ (d1 d2 d3 : Addr) (H' : Hp), H d1 = none → H d2 = none → H d3 = none → d1 ≠ d2 → d1 ≠ d3 → d2 ≠ d3 → (∀ b o, H b = some o → b ≠ l.a → H' b = some o) →
    H' l.a = some (.ins c.p dx (pF ⟨l.a, d1, d2, d3, l.bx⟩ (deadOf x why))) → H' d1 = some (.dK []) → H' d2 = some (.dK []) → H' d3 = some (.dK []) → Q .non H'
theorem met_endWith (T : Txt K mg c) (D : Dme K c.p "end_with" "Process.end_with" s_Process_end_with) : Met P w K mg base 1 c.p "end_with" (spEndWith c) := by
  refine met_of T.clP D sc_Process_end_with (fun _ _ _ _ _ _ us hl => match us, hl with | [_, _], _ => rfl) (fun vs H Q E h => ?_) (fun f cdv A outer s H vs Q E hr h => ?_)
  · obtain ⟨_, _, _, _, rfl, _⟩ := h; rfl
  · obtain ⟨l, dx, x, why, rfl, h1, hQ⟩ := h
    refine ⟨_, (pss_cons (ps_fld (pv 0) pe_bl rfl)
    (pss_cons (ps_fld (pv 0) (pv 1) rfl)
    (pss_cons (ps_fld (pv 0) pe_dnewK rfl)
    (pss_cons (ps_fld (pv 0) pe_dnewK rfl)
    (pss_one (ps_fld (pv 0) pe_dnewK rfl)))))), ?_⟩
    refine ⟨_, rfl, l.a, c.p, dx, _, rfl, h1, T.clP, T.n_lives, lq pF_len, ?_⟩
    refine ⟨_, rfl, _, rfl, l.a, c.p, dx, _, rfl, upd_same, T.clP, T.n_why, lq (lp pF_len), ?_⟩
    intro d1 n1
    refine ⟨_, rfl, l.a, c.p, dx, _, rfl, upd_new upd_same n1, T.clP, T.n_links, lq (lp (lp pF_len)), ?_⟩
    intro d2 n2
    refine ⟨_, rfl, l.a, c.p, dx, _, rfl, upd_new upd_same n2, T.clP, T.n_watches, lq (lp (lp (lp pF_len))), ?_⟩
    intro d3 n3
    refine ⟨_, rfl, l.a, c.p, dx, _, rfl, upd_new upd_same n3, T.clP, T.n_watched_by, lq (lp (lp (lp (lp pF_len)))), ?_⟩
    have a1 : d1 ≠ l.a := new_ne n1
    have a2 : d2 ≠ l.a := new_ne n2
    have a3 : d3 ≠ l.a := new_ne n3
    have b21 : d2 ≠ d1 := new_ne (new_old n2)
    have b32 : d3 ≠ d2 := new_ne (new_old n3)
    have b31 : d3 ≠ d1 := new_ne (new_old (new_old (new_old n3)))
    have m1 : H d1 = none := new_old (new_old n1)
    have m2 : H d2 = none := new_old (new_old (new_old (new_old n2)))
    have m3 : H d3 = none := new_old (new_old (new_old (new_old (new_old (new_old n3)))))
    refine hQ d1 d2 d3 _ m1 m2 m3 (Ne.symm b21) (Ne.symm b31) (Ne.symm b32) (fun b o e nb => ?_) ?_ ?_ ?_ ?_
    · have e1 : b ≠ d1 := ne_of_none e m1
      have e2 : b ≠ d2 := ne_of_none e m2
      have e3 : b ≠ d3 := ne_of_none e m3
      simp only [upd, if_neg nb, if_neg e1, if_neg e2, if_neg e3, e]
    · refine upd_same.trans ?_
      rw [pF_eq, pR_p_lives, pR_p_why, pR_p_links, pR_p_watches, pR_p_watched_by]
      rfl
    · simp only [upd, if_neg a1, if_neg (Ne.symm b21), if_neg (Ne.symm b31), if_true]
    · simp only [upd, if_neg a2, if_neg (Ne.symm b32), if_true]
    · simp only [upd, if_neg a3, if_true]
/-- a process made -/
def spPInit (c : Cs) : Sp := fun vs H Q _ => ∃ (p dx : Addr) (node : Nat), vs = [.ref p, ni node] ∧ H p = some (.ins c.p dx []) ∧
  ∀ (l : PL) (H' : Hp), l.a = p → l.ads.Nodup → (∀ b ∈ l.ads, b = p ∨ H b = none) → (∀ b o, H b = some o → b ≠ p → H' b = some o) → PRep c H' l (Ha05.fresh node) → Q .non H'
theorem mak_process (T : Txt K mg c) (D : Din K mg "Process" c.p "Process.__init__" s_Process_init) : Mak P w K mg base 1 "Process" c.p (spPInit c) := by
  refine mak_of D sc_Process_init (fun _ _ _ _ _ _ us hl => match us, hl with | [_, _], _ => rfl) (fun vs H Q E h => ?_) (fun f cdv A outer s H vs Q E hr h => ?_)
  · obtain ⟨_, _, _, rfl, _⟩ := h; rfl
  · obtain ⟨p, dx, node, rfl, h1, hQ⟩ := h
    refine ⟨_, (pss_cons (ps_fld (pv 0) (pv 1) rfl)
    (pss_cons (ps_fld (pv 0) pe_bl rfl)
    (pss_cons (ps_fld (pv 0) pe_int rfl)
    (pss_cons (ps_fld (pv 0) pe_int rfl)
    (pss_cons (ps_fld (pv 0) pe_dnewK rfl)
    (pss_cons (ps_fld (pv 0) pe_dnewK rfl)
    (pss_cons (ps_fld (pv 0) pe_dnewK rfl)
    (pss_one (ps_fld (pv 0) (pe_lst pa_nil) rfl))))))))), ?_⟩
    have z0 : ([] : List (Str × V)).length ≤ 0 := Nat.le_refl _
    refine ⟨_, rfl, _, rfl, p, c.p, dx, _, rfl, h1, T.clP, T.n_node, lq z0, ?_⟩
    refine ⟨_, rfl, p, c.p, dx, _, rfl, upd_same, T.clP, T.n_lives, lq (lp z0), ?_⟩
    refine ⟨_, rfl, p, c.p, dx, _, rfl, upd_same, T.clP, T.n_why, lq (lp (lp z0)), ?_⟩
    refine ⟨_, rfl, p, c.p, dx, _, rfl, upd_same, T.clP, T.n_traps, lq (lp (lp (lp z0))), ?_⟩
    intro d1 n1
    refine ⟨_, rfl, p, c.p, dx, _, rfl, upd_new upd_same n1, T.clP, T.n_links, lq (lp (lp (lp (lp z0)))), ?_⟩
    intro d2 n2
    refine ⟨_, rfl, p, c.p, dx, _, rfl, upd_new upd_same n2, T.clP, T.n_watches, lq (lp (lp (lp (lp (lp z0))))), ?_⟩
    intro d3 n3
    refine ⟨_, rfl, p, c.p, dx, _, rfl, upd_new upd_same n3, T.clP, T.n_watched_by, lq (lp (lp (lp (lp (lp (lp z0)))))), ?_⟩
    refine ⟨Nat.zero_le _, fun d4 n4 => ?_⟩
    refine ⟨_, rfl, p, c.p, dx, _, rfl, upd_new upd_same n4, T.clP, T.n_box, lq (lp (lp (lp (lp (lp (lp (lp z0))))))), ?_⟩
    have a1 : d1 ≠ p := new_ne n1
    have a2 : d2 ≠ p := new_ne n2
    have a3 : d3 ≠ p := new_ne n3
    have a4 : d4 ≠ p := new_ne n4
    have b21 : d2 ≠ d1 := new_ne (new_old n2)
    have b32 : d3 ≠ d2 := new_ne (new_old n3)
    have b31 : d3 ≠ d1 := new_ne (new_old (new_old (new_old n3)))
    have b43 : d4 ≠ d3 := new_ne (new_old n4)
    have b42 : d4 ≠ d2 := new_ne (new_old (new_old (new_old n4)))
    have b41 : d4 ≠ d1 := new_ne (new_old (new_old (new_old (new_old (new_old n4)))))
    have old : ∀ {d : Addr} {o1 o2 o3 o4 : HO}, upd (upd (upd (upd H p o1) p o2) p o3) p o4 d = none → H d = none := fun h => new_old (new_old (new_old (new_old h)))
    have m1 : H d1 = none := old n1
    have m2 : H d2 = none := old (new_old (new_old n2))
    have m3 : H d3 = none := old (new_old (new_old (new_old (new_old n3))))
    have m4 : H d4 = none := old (new_old (new_old (new_old (new_old (new_old (new_old n4))))))
    refine hQ ⟨p, d1, d2, d3, d4⟩ _ rfl ?_ ?_ (fun b o e nb => ?_) ⟨⟨dx, ?_⟩, ⟨[], ?_, List.Perm.refl _⟩, ?_, ?_, ⟨[], ?_, .nil⟩⟩
    · simp only [PL.ads, List.nodup_cons, List.mem_cons, List.not_mem_nil, or_false, not_or, List.nodup_nil, and_true, not_false_eq_true]
      exact ⟨⟨Ne.symm a1, Ne.symm a2, Ne.symm a3, Ne.symm a4⟩, ⟨Ne.symm b21, Ne.symm b31, Ne.symm b41⟩, ⟨Ne.symm b32, Ne.symm b42⟩, Ne.symm b43⟩
    · intro b hb
      simp only [PL.ads, List.mem_cons, List.not_mem_nil, or_false] at hb
      rcases hb with e | e | e | e | e
      · exact .inl e
      · exact .inr (e ▸ m1)
      · exact .inr (e ▸ m2)
      · exact .inr (e ▸ m3)
      · exact .inr (e ▸ m4)
    · have e1 : b ≠ d1 := ne_of_none e m1
      have e2 : b ≠ d2 := ne_of_none e m2
      have e3 : b ≠ d3 := ne_of_none e m3
      have e4 : b ≠ d4 := ne_of_none e m4
      simp only [upd, if_neg nb, if_neg e1, if_neg e2, if_neg e3, if_neg e4, e]
    · refine upd_same.trans ?_
      rw [pR_new]
      rfl
    · simp only [upd, if_neg a1, if_neg (Ne.symm b21), if_neg (Ne.symm b31), if_neg (Ne.symm b41), if_true]
    · simp only [upd, if_neg a2, if_neg (Ne.symm b32), if_neg (Ne.symm b42), if_true]
      rfl
    · simp only [upd, if_neg a3, if_neg (Ne.symm b43), if_true]
      rfl
    · simp only [upd, if_neg a4, if_true]
end
end PN
end
section
set_option maxRecDepth 100000
set_option maxHeartbeats 2000000
/-! The small defs of the world. -/
namespace PN
open PySem PySem.Spec PyProof.Rows L2
open Ha05 (Proc Fly Sig Link Note flag sigTold proc)
theorem upd_off {H : Hp} {L : Lay} {q b : Addr} {o u : HO} (hm : q ∈ L.ads) (n : b ∉ L.ads) (e : H b = some o) : upd H q u b = some o := by
  have z : b ≠ q := fun z => n (by rw [z]; exact hm)
  rw [upd_ne z]
  exact e
section
variable {P : Program} {w : World} {K : PySem.W.Frag} {mg : Str → Option Value} {base : Heap} {c : Cs}
/-- what comes back -/
def spBack : Sp := fun vs H Q _ => ∃ (g : Addr) (x : Sig) (why : Nat), vs = [.ref g, ni why] ∧ SigAt H g x ∧ (backSig x why = none → Q .non H) ∧
  ∀ y, backSig x why = some y → ∀ p, H p = none → Q (.ref p) (upd H p (.tup ((sigTold y).map ni)))
theorem cal_back (T : Txt K mg c) (D : Dfn K mg "comes_back" s_comes_back) : Cal P w K mg base 1 "comes_back" spBack := by
  refine cal_of D sc_comes_back (fun _ _ _ _ _ _ us hl => match us, hl with | [_, _], _ => rfl) (fun vs H Q E h => ?_) (fun f cdv A outer s H vs Q E hr h => ?_)
  · obtain ⟨_, _, _, rfl, _⟩ := h; rfl
  · obtain ⟨g, x, why, rfl, hg, hN, hS⟩ := h
    refine ⟨_, (pss_cons (ps_if (pt_cmpR op_eq (pe_ix ix_tup (pv 0) pe_int (fun _ _ => rfl)) (pe_k T.k_LINK rfl) (nomark _)) (pss_one (ps_ret (pe_tup (pa_cons (pe_k T.k_ENDED rfl) (pa_cons (pv 1) pa_nil))))) pss_nil)
    (pss_cons (ps_if (pt_cmpR op_eq (pe_ix ix_tup (pv 0) pe_int (fun _ _ => rfl)) (pe_k T.k_CUT rfl) (nomark _)) (pss_one (ps_ret (pe_tup (pa_cons (pe_k T.k_HEARD rfl) (pa_cons (pe_ix ix_tup (pv 0) pe_int (fun _ _ => rfl)) pa_nil))))) pss_nil)
    (pss_cons (ps_if (pt_cmpR op_eq (pe_ix ix_tup (pv 0) pe_int (fun _ _ => rfl)) (pe_k T.k_WATCH rfl) (nomark _)) (pss_one (ps_ret (pe_tup (pa_cons (pe_k T.k_GONE rfl) (pa_cons (pe_ix ix_tup (pv 0) pe_int (fun _ _ => rfl)) (pa_cons (pv 1) pa_nil)))))) pss_nil)
    (pss_one (ps_ret pe_non))))), ?_⟩
    cases x with
    | word n =>
      refine ⟨_, rfl, g, _, 0, _, rfl, rfl, SqT.of hg, rfl, rfl, _, rfl, if_no rfl ?_⟩
      refine ⟨_, rfl, g, _, 0, _, rfl, rfl, SqT.of hg, rfl, rfl, _, rfl, if_no rfl ?_⟩
      refine ⟨_, rfl, g, _, 0, _, rfl, rfl, SqT.of hg, rfl, rfl, _, rfl, if_no rfl ?_⟩
      exact hN rfl
    | link =>
      refine ⟨_, rfl, g, _, 0, _, rfl, rfl, SqT.of hg, rfl, rfl, _, rfl, if_yes rfl ?_⟩
      exact ⟨_, rfl, (by show 2 ≤ sizeLine; decide), hS _ rfl⟩
    | cut k =>
      refine ⟨_, rfl, g, _, 0, _, rfl, rfl, SqT.of hg, rfl, rfl, _, rfl, if_no rfl ?_⟩
      refine ⟨_, rfl, g, _, 0, _, rfl, rfl, SqT.of hg, rfl, rfl, _, rfl, if_yes rfl ?_⟩
      exact ⟨_, rfl, g, _, 1, _, rfl, rfl, SqT.of hg, rfl, (by show 2 ≤ sizeLine; decide), hS _ rfl⟩
    | heard k =>
      refine ⟨_, rfl, g, _, 0, _, rfl, rfl, SqT.of hg, rfl, rfl, _, rfl, if_no rfl ?_⟩
      refine ⟨_, rfl, g, _, 0, _, rfl, rfl, SqT.of hg, rfl, rfl, _, rfl, if_no rfl ?_⟩
      refine ⟨_, rfl, g, _, 0, _, rfl, rfl, SqT.of hg, rfl, rfl, _, rfl, if_no rfl ?_⟩
      exact hN rfl
    | ended k =>
      refine ⟨_, rfl, g, _, 0, _, rfl, rfl, SqT.of hg, rfl, rfl, _, rfl, if_no rfl ?_⟩
      refine ⟨_, rfl, g, _, 0, _, rfl, rfl, SqT.of hg, rfl, rfl, _, rfl, if_no rfl ?_⟩
      refine ⟨_, rfl, g, _, 0, _, rfl, rfl, SqT.of hg, rfl, rfl, _, rfl, if_no rfl ?_⟩
      exact hN rfl
    | halt_ k =>
      refine ⟨_, rfl, g, _, 0, _, rfl, rfl, SqT.of hg, rfl, rfl, _, rfl, if_no rfl ?_⟩
      refine ⟨_, rfl, g, _, 0, _, rfl, rfl, SqT.of hg, rfl, rfl, _, rfl, if_no rfl ?_⟩
      refine ⟨_, rfl, g, _, 0, _, rfl, rfl, SqT.of hg, rfl, rfl, _, rfl, if_no rfl ?_⟩
      exact hN rfl
    | watch k =>
      refine ⟨_, rfl, g, _, 0, _, rfl, rfl, SqT.of hg, rfl, rfl, _, rfl, if_no rfl ?_⟩
      refine ⟨_, rfl, g, _, 0, _, rfl, rfl, SqT.of hg, rfl, rfl, _, rfl, if_no rfl ?_⟩
      refine ⟨_, rfl, g, _, 0, _, rfl, rfl, SqT.of hg, rfl, rfl, _, rfl, if_yes rfl ?_⟩
      exact ⟨_, rfl, g, _, 1, _, rfl, rfl, SqT.of hg, rfl, _, rfl, (by show 3 ≤ sizeLine; decide), hS _ rfl⟩
    | unwatch k =>
      refine ⟨_, rfl, g, _, 0, _, rfl, rfl, SqT.of hg, rfl, rfl, _, rfl, if_no rfl ?_⟩
      refine ⟨_, rfl, g, _, 0, _, rfl, rfl, SqT.of hg, rfl, rfl, _, rfl, if_no rfl ?_⟩
      refine ⟨_, rfl, g, _, 0, _, rfl, rfl, SqT.of hg, rfl, rfl, _, rfl, if_no rfl ?_⟩
      exact hN rfl
    | gone k y =>
      refine ⟨_, rfl, g, _, 0, _, rfl, rfl, SqT.of hg, rfl, rfl, _, rfl, if_no rfl ?_⟩
      refine ⟨_, rfl, g, _, 0, _, rfl, rfl, SqT.of hg, rfl, rfl, _, rfl, if_no rfl ?_⟩
      refine ⟨_, rfl, g, _, 0, _, rfl, rfl, SqT.of hg, rfl, rfl, _, rfl, if_no rfl ?_⟩
      exact hN rfl
theorem ni_min (a b : Nat) : V.int (if (b : Int) < (a : Int) then (b : Int) else (a : Int)) = ni (min a b) := by
  unfold ni
  congr 1
  split <;> omega
theorem ni_max (a b : Nat) : V.int (if (b : Int) > (a : Int) then (b : Int) else (a : Int)) = ni (max a b) := by
  unfold ni
  congr 1
  split <;> omega
def spWire : Sp := fun vs H Q _ => ∃ (a b : Nat), vs = [ni a, ni b] ∧ ∀ p, H p = none → Q (.ref p) (upd H p (.tup [ni (min a b), ni (max a b)]))
theorem cal_wire (T : Txt K mg c) (D : Dfn K mg "wire_between" s_wire_between) : Cal P w K mg base 1 "wire_between" spWire := by
  refine cal_of D sc_wire_between (fun _ _ _ _ _ _ us hl => match us, hl with | [_, _], _ => rfl) (fun vs H Q E h => ?_) (fun f cdv A outer s H vs Q E hr h => ?_)
  · obtain ⟨_, _, rfl, _⟩ := h; rfl
  · obtain ⟨a, b, rfl, hQ⟩ := h
    refine ⟨_, (pss_one (ps_ret (pe_tup (pa_cons (pe_callB (call_min2 rfl) (by rfl) T.m_min (by decide +kernel) (pa_cons (pv 0) (pa_cons (pv 1) pa_nil))) (pa_cons (pe_callB (call_max2 rfl) (by rfl) T.m_max (by decide +kernel) (pa_cons (pv 0) (pa_cons (pv 1) pa_nil))) pa_nil))))), ?_⟩
    refine ⟨_, rfl, _, rfl, a, b, rfl, _, rfl, _, rfl, a, b, rfl, (by show 2 ≤ sizeLine; decide), fun p hp => ?_⟩
    have e := hQ p hp
    rw [← ni_min, ← ni_max] at e
    exact e
/-- 1 <= p <= len(processes) -/
def spHas (c : Cs) : Sp := fun vs H Q _ => ∃ (a dx pr : Addr) (fs : List (Str × V)) (xs : List V) (p : Nat), vs = [.ref a, ni p] ∧ H a = some (.ins c.w dx fs) ∧ fs.lookup ("processes" : Str) = some (.ref pr) ∧ H pr = some (.lst xs) ∧
  Q (.bl (decide (1 ≤ p ∧ p ≤ xs.length))) H
theorem met_has (T : Txt K mg c) (D : Dme K c.w "has_process" "World.has_process" s_World_has_process) : Met P w K mg base 1 c.w "has_process" (spHas c) := by
  refine met_of T.clW D sc_World_has_process (fun _ _ _ _ _ _ us hl => match us, hl with | [_, _], _ => rfl) (fun vs H Q E h => ?_) (fun f cdv A outer s H vs Q E hr h => ?_)
  · obtain ⟨_, _, _, _, _, _, rfl, _⟩ := h; rfl
  · obtain ⟨a, dx, pr, fs, xs, p, rfl, h1, h2, h3, hQ⟩ := h
    refine ⟨_, (pss_one (ps_ret (pe_chain op_le op_le pe_int (pv 1) (pe_callB call_len_seq (by rfl) T.m_len PySem.boot_len (pa_cons (pe_fld (pv 0) rfl) pa_nil))))), ?_⟩
    refine ⟨_, rfl, _, _, rfl, rfl, _, rfl, ?_⟩
    by_cases l1 : 1 ≤ p
    · refine if_yes (decide_eq_true (by omega)) ?_
      refine ⟨_, rfl, a, c.w, dx, fs, _, rfl, h1, T.clW, T.n_processes, h2, pr, xs, rfl, .inl (SqL.of h3), _, _, rfl, rfl, ?_⟩
      have e : decide ((p : Int) ≤ (xs.length : Int)) = decide (1 ≤ p ∧ p ≤ xs.length) := by
        by_cases l2 : p ≤ xs.length
        · rw [decide_eq_true (by omega), decide_eq_true ⟨l1, l2⟩]
        · rw [decide_eq_false (by omega), decide_eq_false (fun z => l2 z.2)]
      show Q (.bl (decide ((p : Int) ≤ (xs.length : Int)))) H
      rw [e]
      exact hQ
    · refine if_no (decide_eq_false (by omega)) ?_
      rw [decide_eq_false (fun z => l1 z.1)] at hQ
      exact hQ
/-- processes[p - 1] -/
def spProc (c : Cs) : Sp := fun vs H Q _ => ∃ (a dx pr : Addr) (fs : List (Str × V)) (xs : List V) (p : Nat) (v : V), vs = [.ref a, ni p] ∧ H a = some (.ins c.w dx fs) ∧ fs.lookup ("processes" : Str) = some (.ref pr) ∧ H pr = some (.lst xs) ∧
  1 ≤ p ∧ xs[p - 1]? = some v ∧ Q v H
theorem met_proc (T : Txt K mg c) (D : Dme K c.w "process" "World.process" s_World_process) : Met P w K mg base 1 c.w "process" (spProc c) := by
  refine met_of T.clW D sc_World_process (fun _ _ _ _ _ _ us hl => match us, hl with | [_, _], _ => rfl) (fun vs H Q E h => ?_) (fun f cdv A outer s H vs Q E hr h => ?_)
  · obtain ⟨_, _, _, _, _, _, _, rfl, _⟩ := h; rfl
  · obtain ⟨a, dx, pr, fs, xs, p, v, rfl, h1, h2, h3, l1, h4, hQ⟩ := h
    refine ⟨_, (pss_one (ps_ret (pe_ix ix_list (pe_fld (pv 0) rfl) (pe_op op_sub (pv 1) pe_int) (fun _ _ => rfl)))), ?_⟩
    refine ⟨_, rfl, a, c.w, dx, fs, _, rfl, h1, T.clW, T.n_processes, h2, _, rfl, _, _, rfl, rfl, pr, xs, _, v, rfl, rfl, SqL.of h3, at_of (j := p - 1) (by omega) h4, hQ⟩
/-- the process's place, over a world -/
theorem sp_proc {H : Hp} {L : Lay} {s : Ha05.St} {dx : Addr} {p : Nat} {l : PL} {Q : VK} {E : XK} (h1 : H L.w = some (.ins c.w dx (wF L s))) (h2 : H L.pr = some (.lst (L.ps.map fun l => .ref l.a))) (hl : L.ps[p - 1]? = some l) (lp : 1 ≤ p) (hQ : Q (.ref l.a) H) :
    spProc c [.ref L.w, ni p] H Q E := by
  refine ⟨L.w, dx, L.pr, wF L s, _, p, .ref l.a, rfl, h1, wF_processes, h2, lp, ?_, hQ⟩
  rw [List.getElem?_map, hl]
  rfl
/-- a new number -/
def spNum (c : Cs) : Sp := fun vs H Q _ => ∃ (L : Lay) (s : Ha05.St), vs = [.ref L.w] ∧ WRep c H L s ∧ ∀ H', WRep c H' L { s with last := s.last + 1 } → Step H L H' L → Q (ni (s.last + 1)) H'
theorem met_num (T : Txt K mg c) (D : Dme K c.w "new_number" "World.new_number" s_World_new_number) : Met P w K mg base 1 c.w "new_number" (spNum c) := by
  refine met_of T.clW D sc_World_new_number (fun _ _ _ _ _ _ us hl => match us, hl with | [_], _ => rfl) (fun vs H Q E h => ?_) (fun f cdv A outer s H vs Q E hr h => ?_)
  · obtain ⟨_, _, rfl, _⟩ := h; rfl
  · obtain ⟨L, st, rfl, R, hQ⟩ := h
    obtain ⟨dx, h1⟩ := R.ins
    refine ⟨_, (pss_cons (ps_fldaug (pv 0) pe_int in_add)
    (pss_one (ps_ret (pe_fld (pv 0) rfl)))), ?_⟩
    refine ⟨_, rfl, L.w, c.w, dx, _, _, rfl, h1, T.clW, T.n_last_number, wF_last_number, _, _, rfl, rfl, dx, _, h1, lq wF_len, ?_⟩
    have e : putF "last_number" (.int ((st.last : Int) + 1)) (wF L st) = wF L { st with last := st.last + 1 } := by
      rw [wF_eq, wR_p_last_number]
      rfl
    refine ⟨_, rfl, L.w, c.w, dx, _, ni (st.last + 1), rfl, upd_same, T.clW, T.n_last_number, ?_, ?_⟩
    · rw [e]
      exact wF_last_number
    · refine hQ _ (R.win (last := st.last + 1) (conns := st.conns) (dx := dx) ?_) (Step.same fun b o q n => ?_)
      · rw [e]
      · exact upd_off mem_w n q
def spCon (c : Cs) : Sp := fun vs H Q _ => ∃ (L : Lay) (s : Ha05.St), vs = [.ref L.w] ∧ WRep c H L s ∧ ∀ H', WRep c H' L { s with conns := s.conns + 1 } → Step H L H' L → Q (ni (s.conns + 1)) H'
theorem met_con (T : Txt K mg c) (D : Dme K c.w "new_connection" "World.new_connection" s_World_new_connection) : Met P w K mg base 1 c.w "new_connection" (spCon c) := by
  refine met_of T.clW D sc_World_new_connection (fun _ _ _ _ _ _ us hl => match us, hl with | [_], _ => rfl) (fun vs H Q E h => ?_) (fun f cdv A outer s H vs Q E hr h => ?_)
  · obtain ⟨_, _, rfl, _⟩ := h; rfl
  · obtain ⟨L, st, rfl, R, hQ⟩ := h
    obtain ⟨dx, h1⟩ := R.ins
    refine ⟨_, (pss_cons (ps_fldaug (pv 0) pe_int in_add)
    (pss_one (ps_ret (pe_fld (pv 0) rfl)))), ?_⟩
    refine ⟨_, rfl, L.w, c.w, dx, _, _, rfl, h1, T.clW, T.n_last_connection, wF_last_connection, _, _, rfl, rfl, dx, _, h1, lq wF_len, ?_⟩
    have e : putF "last_connection" (.int ((st.conns : Int) + 1)) (wF L st) = wF L { st with conns := st.conns + 1 } := by
      rw [wF_eq, wR_p_last_connection]
      rfl
    refine ⟨_, rfl, L.w, c.w, dx, _, ni (st.conns + 1), rfl, upd_same, T.clW, T.n_last_connection, ?_, ?_⟩
    · rw [e]
      exact wF_last_connection
    · refine hQ _ (R.win (last := st.last) (conns := st.conns + 1) (dx := dx) ?_) (Step.same fun b o q n => ?_)
      · rw [e]
      · exact upd_off mem_w n q
end
end PN
end
section
set_option maxRecDepth 100000
set_option maxHeartbeats 2000000
/-! A world made, a process added, a signal sent. -/
namespace PN
open PySem PySem.Spec PyProof.Rows L2
open Ha05 (Proc Fly Sig Link Note flag sigTold proc nodeOf conn wire)
theorem upd_keep {H : Hp} {b p : Addr} {o u : HO} (h : H b = some o) (n : b ≠ p) : upd H p u b = some o := (upd_ne n).trans h
theorem upd_gone {H : Hp} {b p : Addr} {u : HO} (h : H b = none) (n : b ≠ p) : upd H p u b = none := (upd_ne n).trans h
section
variable {P : Program} {w : World} {K : PySem.W.Frag} {mg : Str → Option Value} {base : Heap} {c : Cs}
def spWInit (c : Cs) : Sp := fun vs H Q _ => ∃ (p dx : Addr), vs = [.ref p] ∧ H p = some (.ins c.w dx []) ∧
  ∀ (L : Lay) (H' : Hp), L.w = p → L.ps = [] → (∀ b ∈ L.ads, b = p ∨ H b = none) → (∀ b o, H b = some o → b ≠ p → H' b = some o) → WRep c H' L Ha05.init → Q .non H'
theorem mak_world (T : Txt K mg c) (D : Din K mg "World" c.w "World.__init__" s_World_init) : Mak P w K mg base 1 "World" c.w (spWInit c) := by
  refine mak_of D sc_World_init (fun _ _ _ _ _ _ us hl => match us, hl with | [_], _ => rfl) (fun vs H Q E h => ?_) (fun f cdv A outer s H vs Q E hr h => ?_)
  · obtain ⟨_, _, rfl, _⟩ := h; rfl
  · have hu := hu_of hr
    obtain ⟨p, dx, rfl, h1, hQ⟩ := h
    refine ⟨_, (pss_cons (ps_fld (pv 0) (pe_lst pa_nil) rfl)
    (pss_cons (ps_fld (pv 0) (pe_lst pa_nil) rfl)
    (pss_cons (ps_fld (pv 0) pe_int rfl)
    (pss_cons (ps_fld (pv 0) (pe_dispT hu (pps_cons (pe_tup (pa_cons pe_int (pa_cons pe_int pa_nil))) pe_int (pps_cons (pe_tup (pa_cons pe_int (pa_cons pe_int pa_nil))) pe_int (pps_cons (pe_tup (pa_cons pe_int (pa_cons pe_int pa_nil))) pe_int (pps_cons (pe_tup (pa_cons pe_int (pa_cons pe_int pa_nil))) pe_int (pps_cons (pe_tup (pa_cons pe_int (pa_cons pe_int pa_nil))) pe_int (pps_cons (pe_tup (pa_cons pe_int (pa_cons pe_int pa_nil))) pe_int pps_nil)))))) (by rfl) (by rfl) (fun z => by cases z) (by decide)) rfl)
    (pss_cons (ps_fld (pv 0) pe_int rfl)
    (pss_one (ps_fld (pv 0) (pe_dispT hu (pps_cons (pe_tup (pa_cons pe_int (pa_cons pe_int pa_nil))) pe_bl (pps_cons (pe_tup (pa_cons pe_int (pa_cons pe_int pa_nil))) pe_bl (pps_cons (pe_tup (pa_cons pe_int (pa_cons pe_int pa_nil))) pe_bl pps_nil))) (by rfl) (by rfl) (fun z => by cases z) (by decide)) rfl))))))), ?_⟩
    have z0 : ([] : List (Str × V)).length ≤ 0 := Nat.le_refl _
    have two : ([V.int 1, V.int 2] : List V).length ≤ sizeLine := by show 2 ≤ sizeLine; decide
    refine ⟨Nat.zero_le _, fun q1 n1 => ⟨_, rfl, p, c.w, dx, _, rfl, upd_new h1 n1, T.clW, T.n_processes, lq z0, ?_⟩⟩
    refine ⟨Nat.zero_le _, fun q2 n2 => ⟨_, rfl, p, c.w, dx, _, rfl, upd_new upd_same n2, T.clW, T.n_air, lq (lp z0), ?_⟩⟩
    refine ⟨_, rfl, p, c.w, dx, _, rfl, upd_same, T.clW, T.n_last_number, lq (lp (lp z0)), ?_⟩
    intro d1 n3
    refine ⟨two, fun t1 m1 => ⟨two, fun t2 m2 => ⟨two, fun t3 m3 => ⟨two, fun t4 m4 => ⟨two, fun t5 m5 => ⟨two, fun t6 m6 => ?_⟩⟩⟩⟩⟩⟩
    refine ⟨?_, kvC Ha05.init, ?_, (by show 6 ≤ 15; decide), ?_⟩
    · exact upd_new (upd_new (upd_new (upd_new (upd_new (upd_new upd_same m1) m2) m3) m4) m5) m6
    · exact .cons ⟨t1, rfl, upd_new (upd_new (upd_new (upd_new (upd_new upd_same m2) m3) m4) m5) m6, rfl⟩ (.cons ⟨t2, rfl, upd_new (upd_new (upd_new (upd_new upd_same m3) m4) m5) m6, rfl⟩
        (.cons ⟨t3, rfl, upd_new (upd_new (upd_new upd_same m4) m5) m6, rfl⟩ (.cons ⟨t4, rfl, upd_new (upd_new upd_same m5) m6, rfl⟩ (.cons ⟨t5, rfl, upd_new upd_same m6, rfl⟩ (.cons ⟨t6, rfl, upd_same, rfl⟩ .nil)))))
    have p3 : p ≠ d1 := ne_of_none upd_same n3
    refine ⟨_, rfl, p, c.w, dx, _, rfl, upd_keep (upd_new (upd_new (upd_new (upd_new (upd_new (upd_new (upd_new upd_same n3) m1) m2) m3) m4) m5) m6) p3, T.clW, T.n_connections, lq (lp (lp (lp z0))), ?_⟩
    refine ⟨_, rfl, p, c.w, dx, _, rfl, upd_same, T.clW, T.n_last_connection, lq (lp (lp (lp (lp z0)))), ?_⟩
    intro d2 n4
    refine ⟨two, fun u1 k1 => ⟨two, fun u2 k2 => ⟨two, fun u3 k3 => ?_⟩⟩⟩
    refine ⟨?_, kvB Ha05.init, ?_, (by show 3 ≤ 15; decide), ?_⟩
    · exact upd_new (upd_new (upd_new upd_same k1) k2) k3
    · exact .cons ⟨u1, rfl, upd_new (upd_new upd_same k2) k3, rfl⟩ (.cons ⟨u2, rfl, upd_new upd_same k3, rfl⟩ (.cons ⟨u3, rfl, upd_same, rfl⟩ .nil))
    have p4 : p ≠ d2 := ne_of_none upd_same n4
    refine ⟨_, rfl, p, c.w, dx, _, rfl, upd_keep (upd_new (upd_new (upd_new (upd_new upd_same n4) k1) k2) k3) p4, T.clW, T.n_broken, lq (lp (lp (lp (lp (lp z0))))), ?_⟩
    have a1 : q1 ≠ p := fun e => by rw [e, h1] at n1; cases n1
    have a2 : q2 ≠ p := new_ne n2
    have x21 : q2 ≠ q1 := new_ne (new_old n2)
    have o3 := new_old n3
    have o3' := new_old o3
    have x32 : d1 ≠ q2 := new_ne o3'
    have o3'' := new_old o3'
    have x31 : d1 ≠ q1 := new_ne (new_old o3'')
    have o4a := new_old (new_old n4)
    have x43 : d2 ≠ d1 := new_ne o4a
    have o4b := new_old (new_old (new_old (new_old (new_old (new_old (new_old (new_old o4a)))))))
    have x42 : d2 ≠ q2 := new_ne (new_old (new_old o4b))
    have x41 : d2 ≠ q1 := new_ne (new_old (new_old (new_old (new_old o4b))))
    have w1 : H q1 = none := n1
    have w2 : H q2 = none := new_old (new_old n2)
    have w3 : H d1 = none := new_old (new_old o3'')
    have w4 : H d2 = none := new_old (new_old (new_old (new_old (new_old o4b))))
    refine hQ ⟨p, q1, q2, d1, d2, []⟩ _ rfl rfl ?_ (fun b o e nb => ?_) ⟨⟨dx, ?_⟩, ?_, ⟨[], ?_, .nil⟩, ?_, ?_, rfl, fun i l x hl => ?_, ?_⟩
    · intro b hb
      simp only [Lay.ads, List.flatMap_nil, List.mem_cons, List.not_mem_nil, or_false] at hb
      rcases hb with e | e | e | e | e
      · exact .inl e
      · exact .inr (e ▸ w1)
      · exact .inr (e ▸ w2)
      · exact .inr (e ▸ w3)
      · exact .inr (e ▸ w4)
    · have y1 : b ≠ q1 := ne_of_none e w1
      have y2 : b ≠ q2 := ne_of_none e w2
      have y3 : b ≠ d1 := ne_of_none e w3
      have y4 : b ≠ d2 := ne_of_none e w4
      have s1 := upd_keep (u := .ins c.w dx (putF "processes" (.ref q1) [])) (upd_new (u := .lst []) e n1) nb
      have s2 := upd_keep (u := .ins c.w dx (putF "air" (.ref q2) (putF "processes" (.ref q1) []))) (upd_new (u := .lst []) s1 n2) nb
      have s3 := upd_keep (u := .ins c.w dx (putF "last_number" (.int 0) (putF "air" (.ref q2) (putF "processes" (.ref q1) [])))) s2 nb
      refine upd_keep (upd_keep (upd_new (upd_new (upd_new (upd_new (upd_keep (upd_keep (upd_keep (upd_new (upd_new (upd_new (upd_new (upd_new (upd_new (upd_new s3 n3) m1) m2) m3) m4) m5) m6) y3) nb) nb) n4) k1) k2) k3) y4) nb
    · refine upd_same.trans ?_
      rw [wR_new]
      rfl
    · show upd _ p _ q1 = _
      refine upd_keep (upd_keep (upd_new (upd_new (upd_new (upd_new (upd_keep (upd_keep (upd_keep (upd_new (upd_new (upd_new (upd_new (upd_new (upd_new (upd_new (upd_keep (upd_keep (upd_new (upd_keep upd_same a1) n2) a1) a1) n3) m1) m2) m3) m4) m5) m6) (Ne.symm x31)) a1) a1) n4) k1) k2) k3) (Ne.symm x41)) a1
    · show upd _ p _ q2 = _
      refine upd_keep (upd_keep (upd_new (upd_new (upd_new (upd_new (upd_keep (upd_keep (upd_keep (upd_new (upd_new (upd_new (upd_new (upd_new (upd_new (upd_new (upd_keep (upd_keep upd_same a2) a2) n3) m1) m2) m3) m4) m5) m6) (Ne.symm x32)) a2) a2) n4) k1) k2) k3) (Ne.symm x42)) a2
    · show upd _ p _ d1 = _
      refine upd_keep (upd_keep (upd_new (upd_new (upd_new (upd_new (upd_keep (upd_keep upd_same (Ne.symm p3)) (Ne.symm p3)) n4) k1) k2) k3) (Ne.symm x43)) (Ne.symm p3)
    · show upd _ p _ d2 = _
      exact upd_keep upd_same (Ne.symm p4)
    · cases hl
    · simp only [Lay.ads, List.flatMap_nil, List.nodup_cons, List.mem_cons, List.not_mem_nil, or_false, not_or, List.nodup_nil, and_true, not_false_eq_true]
      exact ⟨⟨Ne.symm a1, Ne.symm a2, p3, p4⟩, ⟨Ne.symm x21, Ne.symm x31, Ne.symm x41⟩, ⟨Ne.symm x32, Ne.symm x42⟩, Ne.symm x43⟩
end
end PN
end
section
set_option maxRecDepth 100000
set_option maxHeartbeats 2000000
/-! A process added, a signal sent. -/
namespace PN
open PySem PySem.Spec PyProof.Rows L2
open Ha05 (Proc Fly Sig Link Note flag sigTold proc nodeOf conn wire)
def Lay.add (L : Lay) (l : PL) : Lay := { L with ps := L.ps ++ [l] }
theorem ps_get {L : Lay} {i : Nat} {l : PL} (hl : L.ps[i]? = some l) : (L.ps.map fun l => V.ref l.a)[i]? = some (.ref l.a) := by
  rw [List.getElem?_map, hl]
  rfl
section
variable {P : Program} {w : World} {K : PySem.W.Frag} {mg : Str → Option Value} {base : Heap} {c : Cs}
theorem add_ads {L : Lay} {l : PL} : (L.add l).ads = L.ads ++ l.ads := by simp [Lay.add, Lay.ads]
theorem WRep.newp {H H' : Hp} {L : Lay} {s : Ha05.St} (R : WRep c H L s) {l : PL} {x : Proc} (hk : ∀ b o, H b = some o → b ≠ L.pr → H' b = some o) (hpr : H' L.pr = some (.lst ((L.ps ++ [l]).map fun l => .ref l.a)))
    (hn : l.ads.Nodup) (hf : ∀ b ∈ l.ads, H b = none) (hP : PRep c H' l x) : WRep c H' (L.add l) { s with procs := s.procs ++ [x] } := by
  obtain ⟨dx, h1⟩ := R.ins
  obtain ⟨vs, h3, h3'⟩ := R.ai
  obtain ⟨n1, n2, n3, n4, n5, n6, n7, n8, n9, n10⟩ := Lay.nd5 R.nd
  have ht : Tups H H' := fun b xs e => hk b _ e fun z => by
    rw [z, R.pr] at e
    cases e
  refine ⟨⟨dx, hk _ _ h1 n1⟩, hpr, ⟨vs, hk _ _ h3 (Ne.symm n5), flies_mono ht h3'⟩, hk _ _ R.cn (Ne.symm n6), hk _ _ R.br (Ne.symm n7), ?_, ?_, ?_⟩
  · show (L.ps ++ [l]).length = (s.procs ++ [x]).length
    rw [List.length_append, List.length_append, R.len]
    rfl
  · intro i m y hm hy
    have hm' : (L.ps ++ [l])[i]? = some m := hm
    have hy' : (s.procs ++ [x])[i]? = some y := hy
    by_cases lt : i < L.ps.length
    · rw [List.getElem?_append_left lt] at hm'
      rw [List.getElem?_append_left (by rw [← R.len]; exact lt)] at hy'
      exact (R.ps i m y hm' hy').keep (fun b hb u e => hk b u e (Lay.ndp R.nd hm' hb).2.1) ht
    · rw [List.getElem?_append_right (by omega)] at hm'
      rw [List.getElem?_append_right (by rw [← R.len]; omega)] at hy'
      have e : i - L.ps.length = 0 := by
        cases q : i - L.ps.length with
        | zero => rfl
        | succ k => rw [q] at hm'; simp at hm'
      have e2 : i - s.procs.length = 0 := by rw [← R.len]; exact e
      rw [e] at hm'
      rw [e2] at hy'
      cases hm'
      cases hy'
      exact hP
  · rw [add_ads, List.nodup_append]
    refine ⟨R.nd, hn, fun a ha b hb e => ?_⟩
    subst e
    obtain ⟨u, q, _⟩ := R.box a ha
    rw [hf a hb] at q
    cases q
def spNewP (c : Cs) : Sp := fun vs H Q _ => ∃ (L : Lay) (s : Ha05.St) (node : Nat), vs = [.ref L.w, ni node] ∧ WRep c H L s ∧ s.procs.length ≤ 100 ∧
  ∀ l H', WRep c H' (L.add l) { s with procs := s.procs ++ [Ha05.fresh node] } → (∀ b o, H b = some o → b ∉ L.ads → H' b = some o) → (∀ b ∈ l.ads, H b = none) → Q (ni (s.procs.length + 1)) H'
theorem met_newp (T : Txt K mg c) (D : Dme K c.w "new_process" "World.new_process" s_World_new_process) (k_Process : Mak P w K mg base 1 "Process" c.p (spPInit c)) :
    Met P w K mg base 3 c.w "new_process" (spNewP c) := by
  refine met_of T.clW D sc_World_new_process (fun _ _ _ _ _ _ us hl => match us, hl with | [_, _], _ => rfl) (fun vs H Q E h => ?_) (fun f cdv A outer s H vs Q E hr h => ?_)
  · obtain ⟨_, _, _, rfl, _⟩ := h; rfl
  · obtain ⟨L, st, node, rfl, R, hsz, hQ⟩ := h
    obtain ⟨dx, h1⟩ := R.ins
    refine ⟨_, (pss_cons (ps_expr (pe_bm PySem.F.plainAttrs_list PySem.F.slot_list_append PySem.F.type_list_append mt_append (pe_fld (pv 0) rfl) (pa_cons (pe_mk k_Process hr (by decide) rfl (pa_cons (pv 1) pa_nil)) pa_nil)))
    (pss_one (ps_ret (pe_callB call_len_seq (by rfl) T.m_len PySem.boot_len (pa_cons (pe_fld (pv 0) rfl) pa_nil))))), ?_⟩
    refine ⟨_, rfl, L.w, c.w, dx, _, _, rfl, h1, T.clW, T.n_processes, wF_processes, .inl ⟨rfl, _, SqL.of R.pr⟩, _, rfl, ?_⟩
    intro x ex nx ne nex
    refine ⟨x, ex, node, rfl, upd_same, fun l H1 ea hn hf hk hP => ⟨rfl, ?_⟩⟩
    have old : ∀ b o, H b = some o → H1 b = some o := fun b o e => hk b o (upd_keep (upd_new e ne) (ne_of_none e nx)) (ne_of_none e nx)
    have hpr := old _ _ R.pr
    have hl : L.ps.length < sizeLine := by
      rw [R.len]
      exact Nat.lt_of_le_of_lt hsz (by decide)
    refine ⟨L.pr, _, _, rfl, rfl, hpr, (by rw [List.length_map]; exact hl), ?_⟩
    have hf' : ∀ b ∈ l.ads, H b = none := fun b hb => by
      rcases hf b hb with e | e
      · rw [e]; exact nx
      · cases q : H b with
        | none => rfl
        | some o =>
          have e2 := upd_keep (p := x) (u := .ins c.p ex []) (upd_new (u := .own x) q ne) (ne_of_none q nx)
          rw [e2] at e
          cases e
    have hap : ∀ b ∈ l.ads, b ≠ L.pr := fun b hb e => by
      have := hf' b hb
      rw [e, R.pr] at this
      cases this
    have hP' : PRep c (upd H1 L.pr (.lst (L.ps.map (fun l => V.ref l.a) ++ [.ref x]))) l (Ha05.fresh node) := by
      refine hP.keep (fun b hb u e => upd_keep e (hap b hb)) (tups_upd fun xs e => ?_)
      rw [hpr] at e
      cases e
    have R' := R.newp (H' := upd H1 L.pr (.lst (L.ps.map (fun l => V.ref l.a) ++ [.ref x]))) (l := l) (fun b o e n => upd_keep (old b o e) n) (by
      rw [upd_same, List.map_append, List.map_cons, List.map_nil, ea]) hn hf' hP'
    obtain ⟨dx', h1'⟩ := R'.ins
    refine ⟨_, rfl, L.w, c.w, dx', _, _, rfl, h1', T.clW, T.n_processes, wF_processes, L.pr, _, rfl, .inl (SqL.of R'.pr), ?_⟩
    have e : V.int (((L.add l).ps.map fun l => V.ref l.a).length : Nat) = ni (st.procs.length + 1) := by
      rw [List.length_map, R'.len]
      show V.int (((st.procs ++ [Ha05.fresh node]).length : Nat) : Int) = _
      rw [List.length_append]
      rfl
    rw [e]
    exact hQ l _ R' (fun b o q n => upd_keep (old b o q) fun z => n (z ▸ mem_pr)) hf'
/-- what send reads and writes -/
structure SRep (c : Cs) (H : Hp) (L : Lay) (s : Ha05.St) : Prop where
  ins : ∃ dx, H L.w = some (.ins c.w dx (wF L s))
  pr : H L.pr = some (.lst (L.ps.map fun l => .ref l.a))
  ai : ∃ vs, H L.ai = some (.lst vs) ∧ vs.length = s.air.length
  cn : H L.cn = some (.dT (kvC s))
  br : H L.br = some (.dT (kvB s))
  len : L.ps.length = s.procs.length
  ps : ∀ (i : Nat) (l : PL) (x : Proc), L.ps[i]? = some l → s.procs[i]? = some x → ∃ dx fs, H l.a = some (.ins c.p dx fs) ∧ fs.lookup ("node" : Str) = some (ni x.node)
theorem WRep.srep {H : Hp} {L : Lay} {s : Ha05.St} (R : WRep c H L s) : SRep c H L s := by
  obtain ⟨vs, h, hv⟩ := R.ai
  refine ⟨R.ins, R.pr, ⟨vs, h, (Paired.length hv).symm⟩, R.cn, R.br, R.len, fun i l x hl hx => ?_⟩
  obtain ⟨dx, hi⟩ := (R.ps i l x hl hx).ins
  exact ⟨dx, _, hi, pF_node⟩
/-- .. while a dict of a process is locked -/
theorem SRep.other {H H' : Hp} {L : Lay} {s : Ha05.St} (R : SRep c H L s) (hk : ∀ b o, H b = some o → b = L.w ∨ b = L.pr ∨ b = L.ai ∨ b = L.cn ∨ b = L.br ∨ (∃ l ∈ L.ps, b = l.a) → H' b = some o) : SRep c H' L s := by
  obtain ⟨dx, h1⟩ := R.ins
  obtain ⟨vs, h, hv⟩ := R.ai
  refine ⟨⟨dx, hk _ _ h1 (.inl rfl)⟩, hk _ _ R.pr (.inr (.inl rfl)), ⟨vs, hk _ _ h (.inr (.inr (.inl rfl))), hv⟩, hk _ _ R.cn (.inr (.inr (.inr (.inl rfl)))), hk _ _ R.br (.inr (.inr (.inr (.inr (.inl rfl))))), R.len, fun i l x hl hx => ?_⟩
  obtain ⟨ex, fs, hi, hf⟩ := R.ps i l x hl hx
  exact ⟨ex, fs, hk _ _ hi (.inr (.inr (.inr (.inr (.inr ⟨l, List.mem_of_getElem? hl, rfl⟩))))), hf⟩
theorem SRep.new {H : Hp} {L : Lay} {s : Ha05.St} (R : SRep c H L s) {q : Addr} {o : HO} (hq : H q = none) : SRep c (upd H q o) L s := R.other fun b u e _ => upd_new e hq
theorem SRep.node {H : Hp} {L : Lay} {s : Ha05.St} (R : SRep c H L s) {p : Nat} (hp : Ok s p) : ∃ l dx fs, L.ps[p - 1]? = some l ∧ H l.a = some (.ins c.p dx fs) ∧ fs.lookup ("node" : Str) = some (ni (nodeOf s p)) := by
  have h1 : p - 1 < L.ps.length := by
    rw [R.len]
    have := hp.1; have := hp.2; omega
  obtain ⟨dx, fs, a, b⟩ := R.ps _ _ _ (List.getElem?_eq_getElem h1) (proc_some hp)
  exact ⟨_, dx, fs, List.getElem?_eq_getElem h1, a, b⟩
theorem valC {s : Ha05.St} {a b : Nat} (ha : 1 ≤ a ∧ a ≤ 3) (hb : 1 ≤ b ∧ b ≤ 3) (n : a ≠ b) : valV (kvC s) (kk a b) = some (ni (conn s a b)) := by
  have h : (a = 1 ∧ b = 2) ∨ (a = 2 ∧ b = 1) ∨ (a = 1 ∧ b = 3) ∨ (a = 3 ∧ b = 1) ∨ (a = 2 ∧ b = 3) ∨ (a = 3 ∧ b = 2) := by omega
  rcases h with ⟨rfl, rfl⟩ | ⟨rfl, rfl⟩ | ⟨rfl, rfl⟩ | ⟨rfl, rfl⟩ | ⟨rfl, rfl⟩ | ⟨rfl, rfl⟩ <;> rfl
theorem valB {s : Ha05.St} {a b : Nat} (ha : 1 ≤ a ∧ a ≤ 3) (hb : 1 ≤ b ∧ b ≤ 3) (n : a ≠ b) : valV (kvB s) (kk (min a b) (max a b)) = some (.bl (wire s a b).broken) := by
  have h : (a = 1 ∧ b = 2) ∨ (a = 2 ∧ b = 1) ∨ (a = 1 ∧ b = 3) ∨ (a = 3 ∧ b = 1) ∨ (a = 2 ∧ b = 3) ∨ (a = 3 ∧ b = 2) := by omega
  rcases h with ⟨rfl, rfl⟩ | ⟨rfl, rfl⟩ | ⟨rfl, rfl⟩ | ⟨rfl, rfl⟩ | ⟨rfl, rfl⟩ | ⟨rfl, rfl⟩ <;> rfl
/-- what is put behind the air -/
def Sends (H H' : Hp) (L : Lay) (l : List Fly) : Prop := ∃ vs ns, H L.ai = some (.lst vs) ∧ H' L.ai = some (.lst (vs ++ ns)) ∧ (∀ b o, H b = some o → b ≠ L.ai → H' b = some o) ∧ Paired (FlyAt H') l ns
theorem Sends.nil {H : Hp} {L : Lay} {vs : List V} (h : H L.ai = some (.lst vs)) : Sends H H L [] := ⟨vs, [], h, by rw [List.append_nil]; exact h, fun _ _ e _ => e, .nil⟩
theorem Sends.tups {H H' : Hp} {L : Lay} {l : List Fly} (h : Sends H H' L l) : Tups H H' := fun b xs e => by
  obtain ⟨vs, ns, h1, h2, h3, _⟩ := h
  exact h3 b _ e fun z => by rw [z, h1] at e; cases e
theorem paired_append {α β : Type} {F : α → β → Prop} : ∀ {l₁ m₁ : List α} {l₂ m₂ : List β}, Paired F l₁ l₂ → Paired F m₁ m₂ → Paired F (l₁ ++ m₁) (l₂ ++ m₂)
  | _, _, _, _, .nil, h => h
  | _, _, _, _, .cons a t, h => .cons a (paired_append t h)
theorem WRep.sends {H H' : Hp} {L : Lay} {s : Ha05.St} {l : List Fly} (R : WRep c H L s) (h : Sends H H' L l) : WRep c H' L (puts s l) ∧ Step H L H' L := by
  have t := h.tups
  obtain ⟨vs, ns, h1, h2, h3, h4⟩ := h
  obtain ⟨vs', g1, g2⟩ := R.ai
  rw [h1] at g1
  cases g1
  exact ⟨R.air h3 h2 (paired_append (flies_mono t g2) h4), Step.same fun b o e n => h3 b o e fun z => n (z ▸ mem_ai)⟩
def spSendBack (c : Cs) : Sp := fun vs H Q _ => ∃ (L : Lay) (s : Ha05.St) (p q : Nat) (g : Addr) (x : Sig), vs = [.ref L.w, ni p, ni q, .ref g] ∧ SRep c H L s ∧ SigAt H g x ∧ s.air.length ≤ 100000 ∧ ∀ H', Sends H H' L (Ha05.noConn p q x) → Q .non H'
theorem met_sendBack (T : Txt K mg c) (D : Dme K c.w "send_back" "World.send_back" s_World_send_back) (c_comes_back : Cal P w K mg base 1 "comes_back" spBack) : Met P w K mg base 2 c.w "send_back" (spSendBack c) := by
  refine met_of T.clW D sc_World_send_back (fun _ _ _ _ _ _ us hl => match us, hl with | [_, _, _, _], _ => rfl) (fun vs H Q E h => ?_) (fun f cdv A outer s H vs Q E hr h => ?_)
  · obtain ⟨_, _, _, _, _, _, rfl, _⟩ := h; rfl
  · obtain ⟨L, st, p, q, g, x, rfl, R, hg, hz, hQ⟩ := h
    obtain ⟨dx, h1⟩ := R.ins
    obtain ⟨vs, h2, h2'⟩ := R.ai
    refine ⟨_, (pss_cons (ps_set (i := 4) sc_World_send_back.nd rfl (Or.inl rfl) (pe_c c_comes_back hr (by decide) rfl (pa_cons (pv 3) (pa_cons (pe_k T.k_CONNECTION_LOST rfl) pa_nil))))
    (pss_one (ps_if (pt_cmp (pc_notN (pv 4))) (pss_one (ps_expr (pe_bm PySem.F.plainAttrs_list PySem.F.slot_list_append PySem.F.type_list_append mt_append (pe_fld (pv 0) rfl) (pa_cons (pe_tup (pa_cons (pv 2) (pa_cons (pv 1) (pa_cons (pv 4) (pa_cons (pe_k T.k_WITHIN_A_NODE rfl) pa_nil))))) pa_nil)))) pss_nil))), ?_⟩
    refine ⟨_, rfl, g, x, 4, rfl, hg, fun e => ?_, fun y e t ht => ?_⟩
    · refine ⟨_, rfl, _, rfl, if_no rfl ?_⟩
      refine hQ H ?_
      rw [noConn_none e]
      exact Sends.nil h2
    · refine ⟨_, rfl, _, rfl, if_yes rfl ?_⟩
      refine ⟨_, rfl, L.w, c.w, dx, _, _, rfl, upd_new h1 ht, T.clW, T.n_air, wF_air, .inl ⟨rfl, _, SqL.of (upd_new h2 ht)⟩, _, rfl, _, rfl, _, rfl, (by show 4 ≤ sizeLine; decide), fun u hu => ?_⟩
      refine ⟨L.ai, vs, _, rfl, rfl, upd_new (upd_new h2 ht) hu, (by rw [h2']; exact Nat.lt_of_le_of_lt hz (by decide)), ?_⟩
      refine hQ _ ⟨vs, [.ref u], h2, upd_same, fun b o q n => upd_keep (upd_new (upd_new q ht) hu) n, ?_⟩
      rw [noConn_some e]
      have na : L.ai ≠ u := ne_of_none (upd_new h2 ht) hu
      have nt : t ≠ L.ai := Ne.symm (ne_of_none h2 ht)
      exact .cons ⟨u, t, rfl, upd_keep upd_same (Ne.symm na), upd_keep (upd_new upd_same hu) nt⟩ .nil
def spSend (c : Cs) : Sp := fun vs H Q _ => ∃ (L : Lay) (s : Ha05.St) (p q : Nat) (g : Addr) (x : Sig), vs = [.ref L.w, ni p, ni q, .ref g] ∧ SRep c H L s ∧ SigAt H g x ∧ Wf s ∧ Ok s p ∧ Ok s q ∧ s.air.length ≤ 100000 ∧ ∀ H', Sends H H' L (sent s p q x) → Q .non H'
theorem met_send (T : Txt K mg c) (D : Dme K c.w "send" "World.send" s_World_send) (m_World_process : Met P w K mg base 1 c.w "process" (spProc c)) (m_World_send_back : Met P w K mg base 2 c.w "send_back" (spSendBack c))
    (c_wire_between : Cal P w K mg base 1 "wire_between" spWire) : Met P w K mg base 3 c.w "send" (spSend c) := by
  refine met_of T.clW D sc_World_send (fun _ _ _ _ _ _ us hl => match us, hl with | [_, _, _, _], _ => rfl) (fun vs H Q E h => ?_) (fun f cdv A outer s H vs Q E hr h => ?_)
  · obtain ⟨_, _, _, _, _, _, rfl, _⟩ := h; rfl
  · have hu := hu_of hr
    obtain ⟨L, st, p, q, g, x, rfl, R, hg, W, op, oq, hz, hQ⟩ := h
    obtain ⟨dx, h1⟩ := R.ins
    obtain ⟨vs, h2, h2'⟩ := R.ai
    obtain ⟨l, ex, fs, hl, hi, hn⟩ := R.node op
    obtain ⟨m, fx, gs, hm, hj, hk⟩ := R.node oq
    have np := W.node op
    have nq := W.node oq
    have hz' : vs.length < sizeLine := by rw [h2']; exact Nat.lt_of_le_of_lt hz (by decide)
    refine ⟨_, (pss_cons (ps_set (i := 4) sc_World_send.nd rfl (Or.inl rfl) (pe_fld (pe_mt m_World_process hr (by decide) (pv 0) (pa_cons (pv 1) pa_nil)) rfl))
    (pss_cons (ps_set (i := 5) sc_World_send.nd rfl (Or.inl rfl) (pe_fld (pe_mt m_World_process hr (by decide) (pv 0) (pa_cons (pv 2) pa_nil)) rfl))
    (pss_one (ps_if (pt_cmpR op_eq (pv 4) (pv 5) (nomark _)) (pss_one (ps_expr (pe_bm PySem.F.plainAttrs_list PySem.F.slot_list_append PySem.F.type_list_append mt_append (pe_fld (pv 0) rfl) (pa_cons (pe_tup (pa_cons (pv 1) (pa_cons (pv 2) (pa_cons (pv 3) (pa_cons (pe_k T.k_WITHIN_A_NODE rfl) pa_nil))))) pa_nil)))) (pss_one (ps_if (pt_cmpR op_eq (pe_dget hu (pe_fld (pv 0) rfl) (pe_tup (pa_cons (pv 4) (pa_cons (pv 5) pa_nil))) (fun _ _ => rfl)) (pe_k T.k_NO_CONNECTION rfl) (nomark _)) (pss_one (ps_expr (pe_mt m_World_send_back hr (by decide) (pv 0) (pa_cons (pv 1) (pa_cons (pv 2) (pa_cons (pv 3) pa_nil)))))) (pss_one (ps_if (pt_not (pt_val (pe_dget hu (pe_fld (pv 0) rfl) (pe_c c_wire_between hr (by decide) rfl (pa_cons (pv 4) (pa_cons (pv 5) pa_nil))) (fun _ _ => rfl)))) (pss_one (ps_expr (pe_bm PySem.F.plainAttrs_list PySem.F.slot_list_append PySem.F.type_list_append mt_append (pe_fld (pv 0) rfl) (pa_cons (pe_tup (pa_cons (pv 1) (pa_cons (pv 2) (pa_cons (pv 3) (pa_cons (pe_dget hu (pe_fld (pv 0) rfl) (pe_tup (pa_cons (pv 4) (pa_cons (pv 5) pa_nil))) (fun _ _ => rfl)) pa_nil))))) pa_nil)))) pss_nil)))))))), ?_⟩
    refine ⟨_, rfl, L.w, dx, _, rfl, h1, wF_m_process, _, rfl, L.w, dx, L.pr, _, _, p, _, rfl, h1, wF_processes, R.pr, op.1, ps_get hl, ?_⟩
    refine ⟨l.a, c.p, ex, fs, _, rfl, hi, T.clP, T.n_node, hn, ?_⟩
    refine ⟨_, rfl, L.w, dx, _, rfl, h1, wF_m_process, _, rfl, L.w, dx, L.pr, _, _, q, _, rfl, h1, wF_processes, R.pr, oq.1, ps_get hm, ?_⟩
    refine ⟨m.a, c.p, fx, gs, _, rfl, hj, T.clP, T.n_node, hk, ?_⟩
    refine ⟨_, rfl, _, rfl, rfl, _, rfl, ?_⟩
    by_cases e1 : nodeOf st p = nodeOf st q
    · refine if_yes (decide_eq_true (congrArg ni e1)) ?_
      refine ⟨_, rfl, L.w, c.w, dx, _, _, rfl, h1, T.clW, T.n_air, wF_air, .inl ⟨rfl, _, SqL.of h2⟩, _, rfl, _, rfl, _, rfl, (by show 4 ≤ sizeLine; decide), fun u hu => ?_⟩
      refine ⟨L.ai, vs, _, rfl, rfl, upd_new h2 hu, hz', ?_⟩
      refine hQ _ ⟨vs, [.ref u], h2, upd_same, fun b o q n => upd_keep (upd_new q hu) n, ?_⟩
      rw [show sent st p q x = [⟨p, q, x, 0⟩] from if_pos e1]
      have na : L.ai ≠ u := ne_of_none h2 hu
      have ng : g ≠ L.ai := ne_of hg h2 (fun z => nomatch z)
      exact .cons ⟨u, g, rfl, upd_keep upd_same (Ne.symm na), upd_keep (upd_new hg hu) ng⟩ .nil
    · have e1' : ¬ ni (nodeOf st p) = ni (nodeOf st q) := fun z => e1 (by
        unfold ni at z
        injection z with z
        exact Int.ofNat.inj z)
      refine if_no (decide_eq_false e1') ?_
      refine ⟨_, rfl, L.w, c.w, dx, _, _, rfl, h1, T.clW, T.n_connections, wF_connections, _, rfl, _, rfl, (by show 2 ≤ sizeLine; decide), fun t ht => ?_⟩
      refine ⟨L.cn, _, rfl, (valC np nq e1) ▸ DGet.t (k := kk (nodeOf st p) (nodeOf st q)) (upd_new R.cn ht) upd_same, rfl, _, rfl, ?_⟩
      have R1 : SRep c (upd H t (.tup [ni (nodeOf st p), ni (nodeOf st q)])) L st := R.new ht
      have g1 := upd_new (u := .tup [ni (nodeOf st p), ni (nodeOf st q)]) hg ht
      have h1a := upd_new (u := .tup [ni (nodeOf st p), ni (nodeOf st q)]) h1 ht
      have h2a := upd_new (u := .tup [ni (nodeOf st p), ni (nodeOf st q)]) h2 ht
      by_cases e2 : conn st (nodeOf st p) (nodeOf st q) = 0
      · refine if_yes (decide_eq_true (by rw [e2]; rfl)) ?_
        refine ⟨_, rfl, L.w, dx, _, rfl, h1a, wF_m_send_back, _, rfl, _, rfl, _, rfl, L, st, p, q, g, x, rfl, R1, g1, hz, fun H' S => ?_⟩
        refine hQ H' ?_
        rw [show sent st p q x = Ha05.noConn p q x from (if_neg e1).trans (if_pos e2)]
        obtain ⟨ws, ns, a1, a2, a3, a4⟩ := S
        rw [h2a] at a1
        cases a1
        exact ⟨vs, ns, h2, a2, fun b o e n => a3 b o (upd_new e ht) n, a4⟩
      · have e2' : ¬ ni (conn st (nodeOf st p) (nodeOf st q)) = V.int 0 := fun z => e2 (by
          unfold ni at z
          injection z with z
          exact Int.ofNat.inj z)
        refine if_no (decide_eq_false e2') ?_
        refine ⟨_, rfl, L.w, c.w, dx, _, _, rfl, h1a, T.clW, T.n_broken, wF_broken, _, rfl, _, rfl, nodeOf st p, nodeOf st q, rfl, fun v hv => ?_⟩
        refine ⟨L.br, _, rfl, (valB np nq e1) ▸ DGet.t (k := kk (min (nodeOf st p) (nodeOf st q)) (max (nodeOf st p) (nodeOf st q))) (upd_new R1.br hv) upd_same, _, rfl, ?_⟩
        cases e3 : (wire st (nodeOf st p) (nodeOf st q)).broken with
        | true =>
          refine if_no rfl ?_
          refine hQ _ ?_
          rw [show sent st p q x = [] from (if_neg e1).trans ((if_neg e2).trans (if_pos e3))]
          exact ⟨vs, [], h2, by rw [List.append_nil]; exact upd_new h2a hv, fun b o e n => upd_new (upd_new e ht) hv, .nil⟩
        | false =>
          refine if_yes rfl ?_
          refine ⟨_, rfl, L.w, c.w, dx, _, _, rfl, upd_new h1a hv, T.clW, T.n_air, wF_air, .inl ⟨rfl, _, SqL.of (upd_new h2a hv)⟩, _, rfl, _, rfl, _, rfl, ?_⟩
          refine ⟨_, rfl, L.w, c.w, dx, _, _, rfl, upd_new h1a hv, T.clW, T.n_connections, wF_connections, _, rfl, _, rfl, (by show 2 ≤ sizeLine; decide), fun t2 ht2 => ?_⟩
          refine ⟨L.cn, _, rfl, (valC np nq e1) ▸ DGet.t (k := kk (nodeOf st p) (nodeOf st q)) (upd_new (upd_new R1.cn hv) ht2) upd_same, (by show 4 ≤ sizeLine; decide), fun u hu2 => ?_⟩
          refine ⟨L.ai, vs, _, rfl, rfl, upd_new (upd_new (upd_new h2a hv) ht2) hu2, hz', ?_⟩
          refine hQ _ ⟨vs, [.ref u], h2, upd_same, fun b o e n => upd_keep (upd_new (upd_new (upd_new (upd_new e ht) hv) ht2) hu2) n, ?_⟩
          rw [show sent st p q x = [⟨p, q, x, conn st (nodeOf st p) (nodeOf st q)⟩] from (if_neg e1).trans ((if_neg e2).trans (if_neg (by rw [e3]; exact Bool.false_ne_true)))]
          have na : L.ai ≠ u := ne_of_none (upd_new (upd_new h2a hv) ht2) hu2
          have ng : g ≠ L.ai := ne_of hg h2 (fun z => nomatch z)
          exact .cons ⟨u, g, rfl, upd_keep upd_same (Ne.symm na), upd_keep (upd_new (upd_new (upd_new g1 hv) ht2) hu2) ng⟩ .nil
end
end PN
end
section
set_option maxRecDepth 100000
set_option maxHeartbeats 4000000
/-! A process ends; an end comes to it. -/
namespace PN
open PySem PySem.Spec PyProof.Rows L2
open Ha05 (Proc Fly Sig Link Note flag sigTold proc nodeOf conn wire setProc)
theorem take_next {α : Type} {l : List α} {i : Nat} {x : α} (h : l[i]? = some x) : l.take (i + 1) = l.take i ++ [x] := by
  rw [List.take_add_one, h]; rfl
theorem upd_self {H : Hp} {d : Addr} {u : HO} (h : H d = some u) : upd H d u = H := by
  funext b
  unfold upd
  by_cases e : b = d
  · rw [if_pos e, e, h]
  · rw [if_neg e]
theorem wf_outs {s : Ha05.St} {p : Nat} {l : List (Nat × Sig)} (W : Wf s) (hp : Ok s p) (h : ∀ y ∈ l, Ok s y.1) : Wf (puts s (outs s p l)) := wf_puts W (outs_ok hp h)
theorem puts_sent (s : Ha05.St) (p : Nat) (l : List (Nat × Sig)) (q : Nat) (x : Sig) : puts (puts s (outs s p l)) (sent (puts s (outs s p l)) p q x) = puts s (outs s p (l ++ [(q, x)])) := by
  rw [puts_puts, keep_puts.sent, outs_append]
  congr 2
  simp [outs]
theorem air_outs {s : Ha05.St} {p n : Nat} {l : List (Nat × Sig)} (hz : s.air.length ≤ 5000) (hl : l.length ≤ n) (hn : n ≤ 50000) : (puts s (outs s p l)).air.length ≤ 100000 := by
  have := outs_len s p l
  show (s.air ++ outs s p l).length ≤ 100000
  rw [List.length_append]; omega
section
variable {P : Program} {w : World} {K : PySem.W.Frag} {mg : Str → Option Value} {base : Heap} {c : Cs}
theorem lock_sends {Hu Hx H2 : Hp} {L : Lay} {s : Ha05.St} {d : Addr} {kvs : List (Key × V)} {od : Obj} {l : List Fly} (R : WRep c Hu L s) (hd : Hu d = some (.dK kvs)) (dn : d ≠ L.ai)
    (hx : ∀ b o, upd Hu d (.frz od (.dK kvs)) b = some o → Hx b = some o) (S : Sends Hx H2 L l) :
    ∃ Hu', H2 = upd Hu' d (.frz od (.dK kvs)) ∧ Hu' d = some (.dK kvs) ∧ WRep c Hu' L (puts s l) ∧ Step Hu L Hu' L := by
  obtain ⟨vs, ns, h1, h2, h3, h4⟩ := S
  obtain ⟨vs', g1, g2⟩ := R.ai
  have g1' := hx _ _ (upd_keep g1 (Ne.symm dn))
  rw [h1] at g1'
  cases g1'
  have h2d : H2 d = some (.frz od (.dK kvs)) := h3 d _ (hx _ _ upd_same) dn
  have S' : Sends Hu (upd H2 d (.dK kvs)) L l := by
    refine ⟨vs, ns, g1, upd_keep h2 (Ne.symm dn), fun b o e n => ?_, h4.mono fun _ _ z => z.mono (tups_upd fun xs e => ?_)⟩
    · by_cases eb : b = d
      · rw [eb, hd] at e
        rw [eb, upd_same]
        exact e
      · exact upd_keep (h3 b o (hx b o (upd_keep e eb)) n) eb
    · rw [h2d] at e
      cases e
  obtain ⟨R', St⟩ := R.sends S'
  refine ⟨_, ?_, upd_same, R', St⟩
  rw [upd_upd]
  exact (upd_self h2d).symm
theorem lock_srep {Hu : Hp} {L : Lay} {s : Ha05.St} {i : Nat} {l : PL} {d : Addr} {o : HO} (R : WRep c Hu L s) (hl : L.ps[i]? = some l) (hd : d = l.wa ∨ d = l.wd) : SRep c (upd Hu d o) L s := by
  have md : d ∈ l.ads := by rcases hd with e | e <;> rw [e] <;> simp [PL.ads]
  obtain ⟨a1, a2, a3, a4, a5⟩ := Lay.ndp R.nd hl md
  refine R.srep.other fun b u e hb => upd_keep e ?_
  rcases hb with z | z | z | z | z | ⟨m, hm, z⟩
  · rw [z]; exact Ne.symm a1
  · rw [z]; exact Ne.symm a2
  · rw [z]; exact Ne.symm a3
  · rw [z]; exact Ne.symm a4
  · rw [z]; exact Ne.symm a5
  · intro q
    obtain ⟨j, hj⟩ := List.getElem?_of_mem hm
    by_cases ej : j = i
    · rw [ej, hl] at hj
      cases hj
      obtain ⟨n1, n2, n3, _⟩ := PL.nd (Lay.own R.nd hl)
      rcases hd with e | e
      · exact n2 (z.symm.trans (q.trans e))
      · exact n3 (z.symm.trans (q.trans e))
    · exact Lay.apart R.nd hj hl ej m.a (by simp [PL.ads]) (by rw [← z, q]; exact md)
theorem kvW_item {l : List (Nat × Nat)} {i : Nat} {vk vq : V} (ek : ((kvW l)[i]?.map fun kv => kV kv.1) = some vk) (eq : ((kvW l)[i]?.map Prod.snd) = some vq) : ∃ y, l[i]? = some y ∧ vk = ni y.1 ∧ vq = ni y.2 := by
  unfold kvW at ek eq
  rw [List.getElem?_map] at ek eq
  cases e : l[i]? with
  | none => rw [e] at ek; cases ek
  | some y =>
    rw [e] at ek eq
    exact ⟨y, rfl, (Option.some.inj ek).symm, (Option.some.inj eq).symm⟩
theorem ni_inj {a b : Nat} (h : ni a = ni b) : a = b := by
  unfold ni at h
  injection h with h
  exact Int.ofNat.inj h
/-- is there a link that holds -/
theorem holds_val {kvs : List (Key × V)} {x : Proc} {n last q : Nat} (h : kvs.Perm (kvL x.links)) (hs : PWf n last x) : decide (valV kvs (Sum.inl (q : Int)) = some (V.int 0)) = (match Ha05.linkTo x q with | some y => y.cutting == 0 | none => false) := by
  rw [links_val h hs.lsort]
  unfold Ha05.linkTo
  cases e : x.links.find? fun y => y.to == q with
  | none => rfl
  | some y =>
    show decide (some (ni y.cutting) = some (V.int 0)) = (y.cutting == 0)
    by_cases z : y.cutting = 0
    · rw [z]; rfl
    · have : ¬ some (ni y.cutting) = some (V.int 0) := fun q => z (ni_inj (b := 0) (Option.some.inj q))
      rw [decide_eq_false this]
      simp [z]
theorem int_val {kvs : List (Key × V)} {l : List Link} (h : kvs.Perm (kvL l)) (hs : l.Pairwise fun a b => a.to < b.to) (q : Int) : ∀ v, valV kvs (Sum.inl q) = some v → ∃ n : Int, v = .int n := by
  intro v e
  rw [val_perm h (kvL_nd hs)] at e
  obtain ⟨j, ej⟩ := kvL_nat e
  rw [ej, kvL_val] at e
  obtain ⟨y, _, ey⟩ := Option.map_eq_some_iff.mp e
  exact ⟨_, ey.symm⟩
theorem find_at {l : List Link} (hs : l.Pairwise fun a b => a.to < b.to) {i : Nat} {y : Link} (h : l[i]? = some y) : (l.find? fun z => z.to == y.to) = some y := by
  induction l generalizing i with
  | nil => simp at h
  | cons z r ih =>
    obtain ⟨h1, h2⟩ := List.pairwise_cons.mp hs
    rw [List.find?_cons]
    cases i with
    | zero =>
      have e : z = y := by simpa using h
      rw [e]; simp
    | succ j =>
      have hr : r[j]? = some y := by simpa using h
      have lt := h1 y (List.mem_of_getElem? hr)
      rw [show (z.to == y.to) = false by simp; omega]
      exact ih h2 hr
def spEnd (c : Cs) : Sp := fun vs H Q _ => ∃ (L : Lay) (s : Ha05.St) (p why : Nat), vs = [.ref L.w, ni p, ni why] ∧ WRep c H L s ∧ Wf s ∧ Ok s p ∧ Sml 5000 s ∧ ∀ L' H', WRep c H' L' (Ha05.dies s p why) → Step H L H' L' → Q .non H'
theorem met_end (T : Txt K mg c) (D : Dme K c.w "end" "World.end" s_World_end) (m_World_process : Met P w K mg base 1 c.w "process" (spProc c)) (m_Process_link_holds : Met P w K mg base 1 c.p "link_holds" (spHolds c))
    (m_World_send : Met P w K mg base 3 c.w "send" (spSend c)) (m_Process_end_with : Met P w K mg base 1 c.p "end_with" (spEndWith c)) : Met P w K mg base 4 c.w "end" (spEnd c) := by
  refine met_of T.clW D sc_World_end (fun _ _ _ _ _ _ us hl => match us, hl with | [_, _, _], _ => rfl) (fun vs H Q E h => ?_) (fun f cdv A outer s H vs Q E hr h => ?_)
  · obtain ⟨_, _, _, _, rfl, _⟩ := h; rfl
  · have hu := hu_of hr
    obtain ⟨L, st, p, why, rfl, R, W, op, hz, hQ⟩ := h
    obtain ⟨dx, h1⟩ := R.ins
    obtain ⟨l, hl, Pr⟩ := R.prc op
    obtain ⟨ex, hi⟩ := Pr.ins
    obtain ⟨kvs, hli, hperm⟩ := Pr.li
    have Pw := W.pwf op
    obtain ⟨x, ex0⟩ : ∃ x, x = proc st p := ⟨_, rfl⟩
    rw [← ex0] at hi hperm Pw Pr
    have hzp := sml_proc hz op
    rw [← ex0] at hzp
    have hza := hz.air
    obtain ⟨ks, hks, hkp⟩ := links_keys hperm
    have h64 : ks.length < 64 := by
      rw [hkp.length_eq, List.length_map]
      have := Pw.links_len
      have := W.few
      omega
    have mi : ∀ {t : Ha05.St} {H' : Hp}, WRep c H' L t → proc t p = x → Ok t p → ∃ ex kvs, H' l.a = some (.ins c.p ex (pF l x)) ∧ H' l.li = some (.dK kvs) ∧ kvs.Perm (kvL x.links) ∧ PRep c H' l x := fun R' e o => by
      have P' := R'.ps _ _ _ hl (proc_some o)
      rw [e] at P'
      obtain ⟨a, b⟩ := P'.ins
      obtain ⟨k, b2, b3⟩ := P'.li
      exact ⟨a, k, b, b2, b3, P'⟩
    refine ⟨_, (pss_cons (ps_set (i := 3) sc_World_end.nd rfl (Or.inl rfl) (pe_mt m_World_process hr (by decide) (pv 0) (pa_cons (pv 1) pa_nil)))
    (pss_cons (ps_for PassesOwn.never rfl (pi_list (pe_callB (call_sortedDI rfl) (by rfl) T.m_sorted (by decide +kernel) (pa_cons (pe_fld (pv 3) rfl) pa_nil))) (pg_name (i := 4) sc_World_end.nd rfl (Or.inl rfl))
    (pss_one (ps_if (pt_val (pe_mt m_Process_link_holds hr (by decide) (pv 3) (pa_cons (pv 4) pa_nil))) (pss_one (ps_expr (pe_mt m_World_send hr (by decide) (pv 0) (pa_cons (pv 1) (pa_cons (pv 4) (pa_cons (pe_tup (pa_cons (pe_k T.k_ENDED rfl) (pa_cons (pv 2) pa_nil))) pa_nil)))))) pss_nil)))
    (pss_cons (ps_lock (ps_for PassesOwn.never rfl (pi_items (pe_fld (pv 3) rfl)) (pg_tup rfl (pgs_cons (pg_name (i := 5) sc_World_end.nd rfl (Or.inl rfl)) (pgs_cons (pg_name (i := 4) sc_World_end.nd rfl (Or.inl rfl)) pgs_nil)))
    (pss_one (ps_expr (pe_mt m_World_send hr (by decide) (pv 0) (pa_cons (pv 1) (pa_cons (pv 4) (pa_cons (pe_tup (pa_cons (pe_k T.k_GONE rfl) (pa_cons (pv 5) (pa_cons (pv 2) pa_nil)))) pa_nil))))))))
    (pss_cons (ps_lock (ps_for PassesOwn.never rfl (pi_items (pe_fld (pv 3) rfl)) (pg_tup rfl (pgs_cons (pg_name (i := 5) sc_World_end.nd rfl (Or.inl rfl)) (pgs_cons (pg_name (i := 4) sc_World_end.nd rfl (Or.inl rfl)) pgs_nil)))
    (pss_one (ps_expr (pe_mt m_World_send hr (by decide) (pv 0) (pa_cons (pv 1) (pa_cons (pv 4) (pa_cons (pe_tup (pa_cons (pe_k T.k_UNWATCH rfl) (pa_cons (pv 5) pa_nil))) pa_nil))))))))
    (pss_one (ps_expr (pe_mt m_Process_end_with hr (by decide) (pv 3) (pa_cons (pv 2) pa_nil)))))))), ?_⟩
    refine ⟨_, rfl, L.w, dx, _, rfl, h1, wF_m_process, _, rfl, L.w, dx, L.pr, _, _, p, _, rfl, h1, wF_processes, R.pr, op.1, ps_get hl, ?_⟩
    refine ⟨_, rfl, l.a, c.p, ex, _, _, rfl, hi, T.clP, T.n_links, pF_links, l.li, kvs, ks, rfl, .inl hli, hks, h64, fun ys sl perm rise new => ?_⟩
    have ey := links_sorted Pw.lsort hkp perm rise
    have eys : ys.map V.int = x.links.map fun y => ni y.to := by
      rw [ey, List.map_map]
      rfl
    rw [eys]
    have nsl : sl ∉ L.ads := R.out new
    refine ⟨sl, rfl, ⟨_, SqL.of upd_same⟩, for_list (K := K) (a := sl) (xs := x.links.map fun y => ni y.to) (fun i σ H' => ∃ v : Option V, σ = [some (.ref L.w), some (ni p), some (ni why), some (.ref l.a), v, none] ∧
      H' sl = some (.lst (x.links.map fun y => ni y.to)) ∧ WRep c H' L (puts st (outs st p (((x.links.take i).filter fun y => y.cutting == 0).map fun y => (y.to, Sig.ended why)))) ∧ Step H L H' L) ⟨none, rfl, upd_same, ?_, Step.new new⟩ (fun i σ H' _ ⟨_, _, z, _, _⟩ => SqL.of z) ?_ ?_⟩
    · rw [List.take_zero]
      show WRep c _ L (puts st (outs st p []))
      rw [show outs st p [] = [] from rfl, puts_nil]
      exact R.new new
    · rintro i v σ H' hv ⟨v4, rfl, hs, R1, S1⟩
      rw [List.getElem?_map] at hv
      obtain ⟨y, hy, rfl⟩ := Option.map_eq_some_iff.mp hv
      have oq : Ok st y.to := Pw.lok y (List.mem_of_getElem? hy)
      obtain ⟨ex1, kvs1, hi1, hli1, hp1, P1⟩ := mi R1 (by rw [proc_puts, ← ex0]) op
      obtain ⟨dw, hw1⟩ := R1.ins
      refine ⟨_, rfl, l.a, ex1, _, rfl, hi1, pF_m_link_holds, _, rfl, l.a, ex1, l.li, _, kvs1, _, rfl, hi1, pF_links, hli1, int_val hp1 Pw.lsort _, _, rfl, ?_⟩
      have hb : decide (valV kvs1 (Sum.inl (y.to : Int)) = some (V.int 0)) = (y.cutting == 0) := by
        rw [holds_val hp1 Pw]
        unfold Ha05.linkTo
        rw [find_at Pw.lsort hy]
      cases e0 : (y.cutting == 0) with
      | true =>
        refine if_yes (hb.trans e0) ?_
        refine ⟨_, rfl, L.w, dw, _, rfl, hw1, wF_m_send, _, rfl, _, rfl, _, rfl, (by show 2 ≤ sizeLine; decide), fun t ht => ?_⟩
        have okl : ∀ z ∈ (((x.links.take i).filter fun y => y.cutting == 0).map fun y => (y.to, Sig.ended why)), Ok st z.1 := fun z hz => by
          obtain ⟨u, hu, rfl⟩ := List.mem_map.mp hz
          exact Pw.lok u (List.mem_of_mem_take (List.mem_filter.mp hu).1)
        refine ⟨L, _, p, y.to, t, .ended why, rfl, R1.srep.new ht, upd_same, wf_outs W op okl, op, oq, air_outs hza (n := 5000) ?_ (by decide), fun H2 S2 => ?_⟩
        · rw [List.length_map]
          have a1 := List.length_filter_le (fun y : Link => y.cutting == 0) (x.links.take i)
          have a2 := List.length_take_le i x.links
          have a3 : (x.links.take i).length ≤ x.links.length := by rw [List.length_take]; omega
          omega
        · obtain ⟨R2, S3⟩ := (R1.new ht).sends S2
          have S4 := (S1.trans (Step.new ht)).trans S3
          refine ⟨some (ni y.to), rfl, ?_, ?_, S4⟩
          · exact S3.frame sl _ (upd_new hs ht) nsl
          · rw [puts_sent] at R2
            rw [take_next hy, List.filter_append, List.filter_cons, if_pos e0, List.filter_nil, List.map_append]
            exact R2
      | false =>
        refine if_no (hb.trans e0) ?_
        refine ⟨some (ni y.to), rfl, hs, ?_, S1⟩
        rw [take_next hy, List.filter_append, List.filter_cons, if_neg (by rw [e0]; exact Bool.false_ne_true), List.filter_nil, List.append_nil]
        exact R1
    · rintro σ H1 ⟨v4, rfl, _, R1, S1⟩
      rw [List.length_map, List.take_length] at R1
      have R1 : WRep c H1 L (puts st (outs st p (sigsL x why))) := R1
      obtain ⟨ex1, kvs1, hi1, hli1, hp1, P1⟩ := mi R1 (by rw [proc_puts, ← ex0]) op
      obtain ⟨n1, n2, n3, n4, n5, n6, n7, n8, n9, n10⟩ := PL.nd (Lay.own R1.nd hl)
      have mwd : l.wd ∈ l.ads := by simp [PL.ads]
      have mwa : l.wa ∈ l.ads := by simp [PL.ads]
      have okD : ∀ {l : List (Nat × Nat)}, (∀ y ∈ l, y ∈ x.watched) → ∀ z ∈ (sigsL x why ++ l.map fun y => (y.2, Sig.gone y.1 why)), Ok st z.1 := fun hm z hz => by
        rcases List.mem_append.mp hz with q | q
        · obtain ⟨u, hu, rfl⟩ := List.mem_map.mp q
          exact Pw.lok u (List.mem_filter.mp hu).1
        · obtain ⟨u, hu, rfl⟩ := List.mem_map.mp q
          exact Pw.dok u (hm u hu)
      have lenL : (sigsL x why).length ≤ 5000 := by
        unfold sigsL
        rw [List.length_map]
        have := List.length_filter_le (fun y : Link => y.cutting == 0) x.links
        omega
      refine ⟨l.wd, _, P1.wd, trivial, fun od => ?_⟩
      refine ⟨_, rfl, l.a, c.p, ex1, _, _, rfl, upd_keep hi1 n3, T.clP, T.n_watched_by, pF_watched_by, l.wd, od, kvW x.watched, rfl, upd_same, for_it walk_items
        (fun i σ H' => ∃ (v4 v5 : Option V) (Hu : Hp), σ = [some (.ref L.w), some (ni p), some (ni why), some (.ref l.a), v4, v5] ∧ H' = upd Hu l.wd (.frz od (.dK (kvW x.watched))) ∧ Hu l.wd = some (.dK (kvW x.watched)) ∧
          WRep c Hu L (puts st (outs st p (sigsL x why ++ (x.watched.take i).map fun y => (y.2, Sig.gone y.1 why)))) ∧ Step H L Hu L) ⟨v4, none, H1, rfl, rfl, P1.wd, ?_, S1⟩ (fun i σ H' _ ⟨_, _, _, _, z, _⟩ => by rw [z]; exact upd_same) ?_ ?_⟩
      · rw [List.take_zero, List.map_nil, List.append_nil]
        exact R1
      · rintro i v σ Ha H' hlt ⟨v4, v5, Hu, rfl, rfl, hud, Ru, Su⟩ ⟨Tt, vk, vq, rfl, nT, rfl, ek, eq⟩
        obtain ⟨y, hy, rfl, rfl⟩ := kvW_item ek eq
        refine ⟨Tt, _, rfl, SqT.of upd_same, rfl, _, _, rfl, _, _, rfl, rfl, ?_⟩
        obtain ⟨dw, hw1⟩ := Ru.ins
        have nw : L.w ≠ l.wd := Ne.symm (Lay.ndp Ru.nd hl mwd).1
        refine ⟨_, rfl, L.w, dw, _, rfl, upd_new (upd_keep hw1 nw) nT, wF_m_send, _, rfl, _, rfl, _, rfl, _, rfl, (by show 3 ≤ sizeLine; decide), fun t ht => ?_⟩
        have oq := Pw.dok _ (List.mem_of_getElem? hy)
        refine ⟨L, _, p, y.2, t, .gone y.1 why, rfl, ((lock_srep Ru hl (.inr rfl)).new nT).new ht, upd_same, wf_outs W op (okD fun y hy => List.mem_of_mem_take hy), op, oq, air_outs hza (n := 10000) ?_ (by decide), fun H2 S2 => ?_⟩
        · rw [List.length_append, List.length_map, List.length_take]
          omega
        · obtain ⟨Hu', e2, hd2, R2, S3⟩ := lock_sends Ru hud (Lay.ndp Ru.nd hl mwd).2.2.1 (fun b o e => upd_new (upd_new e nT) ht) S2
          refine ⟨_, _, Hu', rfl, e2, hd2, ?_, Su.trans S3⟩
          rw [puts_sent] at R2
          rw [take_next hy, List.map_append, ← List.append_assoc]
          exact R2
      · rintro σ Hb ⟨v4, v5, Hu, rfl, rfl, hud, Ru, Su⟩
        rw [kvW_len, List.take_length] at Ru
        refine ⟨upd_same, ?_⟩
        rw [upd_upd, upd_self hud]
        have R2 : WRep c Hu L (puts st (outs st p (sigsL x why ++ sigsD x why))) := Ru
        obtain ⟨ex2, kvs2, hi2, hli2, hp2, P2⟩ := mi R2 (by rw [proc_puts, ← ex0]) op
        have okW : ∀ {l : List (Nat × Nat)}, (∀ y ∈ l, y ∈ x.watches) → ∀ z ∈ (sigsL x why ++ sigsD x why ++ l.map fun y => (y.2, Sig.unwatch y.1)), Ok st z.1 := fun hm z hz => by
          rcases List.mem_append.mp hz with q | q
          · exact okD (l := x.watched) (fun y hy => hy) z q
          · obtain ⟨u, hu, rfl⟩ := List.mem_map.mp q
            exact (Pw.wok u (hm u hu)).1
        refine ⟨l.wa, _, P2.wa, trivial, fun od => ?_⟩
        refine ⟨_, rfl, l.a, c.p, ex2, _, _, rfl, upd_keep hi2 n2, T.clP, T.n_watches, pF_watches, l.wa, od, kvW x.watches, rfl, upd_same, for_it walk_items
          (fun i σ H' => ∃ (v4 v5 : Option V) (Hu : Hp), σ = [some (.ref L.w), some (ni p), some (ni why), some (.ref l.a), v4, v5] ∧ H' = upd Hu l.wa (.frz od (.dK (kvW x.watches))) ∧ Hu l.wa = some (.dK (kvW x.watches)) ∧
            WRep c Hu L (puts st (outs st p (sigsL x why ++ sigsD x why ++ (x.watches.take i).map fun y => (y.2, Sig.unwatch y.1)))) ∧ Step H L Hu L) ⟨v4, v5, Hu, rfl, rfl, P2.wa, ?_, Su⟩ (fun i σ H' _ ⟨_, _, _, _, z, _⟩ => by rw [z]; exact upd_same) ?_ ?_⟩
        · rw [List.take_zero, List.map_nil, List.append_nil]
          exact R2
        · rintro i v σ Ha H' hlt ⟨v4, v5, Hu, rfl, rfl, hud, Ru, Su⟩ ⟨Tt, vk, vq, rfl, nT, rfl, ek, eq⟩
          obtain ⟨y, hy, rfl, rfl⟩ := kvW_item ek eq
          refine ⟨Tt, _, rfl, SqT.of upd_same, rfl, _, _, rfl, _, _, rfl, rfl, ?_⟩
          obtain ⟨dw, hw1⟩ := Ru.ins
          have nw : L.w ≠ l.wa := Ne.symm (Lay.ndp Ru.nd hl mwa).1
          refine ⟨_, rfl, L.w, dw, _, rfl, upd_new (upd_keep hw1 nw) nT, wF_m_send, _, rfl, _, rfl, _, rfl, (by show 2 ≤ sizeLine; decide), fun t ht => ?_⟩
          have oq := (Pw.wok _ (List.mem_of_getElem? hy)).1
          refine ⟨L, _, p, y.2, t, .unwatch y.1, rfl, ((lock_srep Ru hl (.inl rfl)).new nT).new ht, upd_same, wf_outs W op (okW fun y hy => List.mem_of_mem_take hy), op, oq, air_outs hza (n := 15000) ?_ (by decide), fun H2 S2 => ?_⟩
          · have lD : (sigsD x why).length ≤ 5000 := by
              unfold sigsD
              rw [List.length_map]
              omega
            rw [List.length_append, List.length_append, List.length_map, List.length_take]
            omega
          · obtain ⟨Hu', e2, hd2, R2, S3⟩ := lock_sends Ru hud (Lay.ndp Ru.nd hl mwa).2.2.1 (fun b o e => upd_new (upd_new e nT) ht) S2
            refine ⟨_, _, Hu', rfl, e2, hd2, ?_, Su.trans S3⟩
            rw [puts_sent] at R2
            rw [take_next hy, List.map_append, ← List.append_assoc]
            exact R2
        · rintro σ Hb ⟨v4, v5, Hu, rfl, rfl, hud, Ru, Su⟩
          rw [kvW_len, List.take_length] at Ru
          refine ⟨upd_same, ?_⟩
          rw [upd_upd, upd_self hud]
          have R3 : WRep c Hu L (puts st (outs st p (sigs x why))) := Ru
          obtain ⟨ex3, kvs3, hi3, hli3, hp3, P3⟩ := mi R3 (by rw [proc_puts, ← ex0]) op
          refine ⟨_, rfl, l.a, ex3, _, rfl, hi3, pF_m_end_with, _, rfl, l, ex3, x, why, rfl, hi3, fun d1 d2 d3 H' m1 m2 m3 x12 x13 x23 hk hi' g1 g2 g3 => ?_⟩
          have ep : proc (puts st (outs st p (sigs x why))) p = x := by rw [proc_puts, ← ex0]
          rw [← ep] at P3 hi'
          obtain ⟨R4, S4⟩ := R3.ended hl P3 m1 m2 m3 x12 x13 x23 hk hi' g1 g2 g3
          refine hQ _ _ ?_ (Su.trans S4)
          rw [dies_eq, ← ex0]
          rw [ep] at R4
          exact R4
end
end PN
end
section
set_option maxRecDepth 100000
set_option maxHeartbeats 4000000
/-! What a signal does at one who lives. -/
namespace PN
open PySem PySem.Spec PyProof.Rows L2
open Ha05 (Proc Fly Sig Link Note flag sigTold proc nodeOf conn wire setProc linkTo notes without withLink)
def sigNo : Sig → Nat
  | .word _ => 0
  | .link => 1
  | .cut _ => 2
  | .heard _ => 3
  | .ended _ => 4
  | .halt_ _ => 5
  | .watch _ => 6
  | .unwatch _ => 7
  | .gone _ _ => 8
section
variable {P : Program} {w : World} {K : PySem.W.Frag} {mg : Str → Option Value} {base : Heap} {c : Cs}
def spEndComes (c : Cs) : Sp := fun vs H Q _ => ∃ (L : Lay) (s : Ha05.St) (p : Nat) (g : Addr) (n : Note), vs = [.ref L.w, ni p, ni n.n, .ref g] ∧ H g = some (.tup [ni n.what, ni n.who, ni n.n]) ∧ WRep c H L s ∧ Wf s ∧ Ok s p ∧ Sml 5000 s ∧
  ∀ L' H', WRep c H' L' (Ha05.hit s p n) → Step H L H' L' → Q .non H'
theorem met_endComes (T : Txt K mg c) (D : Dme K c.w "end_comes" "World.end_comes" s_World_end_comes) (m_World_process : Met P w K mg base 1 c.w "process" (spProc c)) (m_World_end : Met P w K mg base 4 c.w "end" (spEnd c)) :
    Met P w K mg base 5 c.w "end_comes" (spEndComes c) := by
  refine met_of T.clW D sc_World_end_comes (fun _ _ _ _ _ _ us hl => match us, hl with | [_, _, _, _], _ => rfl) (fun vs H Q E h => ?_) (fun f cdv A outer s H vs Q E hr h => ?_)
  · obtain ⟨_, _, _, _, _, rfl, _⟩ := h; rfl
  · obtain ⟨L, st, p, g, n, rfl, hg, R, W, op, hz, hQ⟩ := h
    obtain ⟨dx, h1⟩ := R.ins
    obtain ⟨l, hl, Pr⟩ := R.prc op
    obtain ⟨ex, hi⟩ := Pr.ins
    obtain ⟨vs, hb, hv⟩ := Pr.bx
    refine ⟨_, (pss_cons (ps_set (i := 4) sc_World_end_comes.nd rfl (Or.inl rfl) (pe_mt m_World_process hr (by decide) (pv 0) (pa_cons (pv 1) pa_nil)))
    (pss_one (ps_if (pt_cmpR op_eq (pe_fld (pv 4) rfl) pe_int (nomark _)) (pss_one (ps_expr (pe_bm PySem.F.plainAttrs_list PySem.F.slot_list_append PySem.F.type_list_append mt_append (pe_fld (pv 4) rfl) (pa_cons (pv 3) pa_nil)))) (pss_one (ps_if (pt_cmpR op_ne (pv 2) (pe_k T.k_AS_IT_SHOULD rfl) (nomark _)) (pss_one (ps_expr (pe_mt m_World_end hr (by decide) (pv 0) (pa_cons (pv 1) (pa_cons (pv 2) pa_nil))))) pss_nil))))), ?_⟩
    refine ⟨_, rfl, L.w, dx, _, rfl, h1, wF_m_process, _, rfl, L.w, dx, L.pr, _, _, p, _, rfl, h1, wF_processes, R.pr, op.1, ps_get hl, ?_⟩
    refine ⟨_, rfl, l.a, c.p, ex, _, _, rfl, hi, T.clP, T.n_traps, pF_traps, rfl, _, rfl, ?_⟩
    cases et : (proc st p).traps with
    | true =>
      refine if_yes rfl ?_
      refine ⟨_, rfl, l.a, c.p, ex, _, _, rfl, hi, T.clP, T.n_box, pF_box, .inl ⟨rfl, _, SqL.of hb⟩, _, rfl, l.bx, vs, _, rfl, rfl, hb, ?_, ?_⟩
      · have := sml_proc hz op
        rw [← Paired.length hv]
        exact Nat.lt_of_le_of_lt (show _ ≤ 5000 by omega) (by decide)
      · obtain ⟨R1, S1⟩ := R.note hl Pr hb hv hg
        refine hQ L _ ?_ S1
        unfold Ha05.hit
        rw [if_pos et]
        exact R1
    | false =>
      refine if_no rfl ?_
      refine ⟨_, rfl, rfl, _, rfl, ?_⟩
      by_cases e0 : n.n = 0
      · refine if_no (by rw [e0]; rfl) ?_
        refine hQ L H ?_ (Step.refl H L)
        unfold Ha05.hit
        rw [if_neg (by rw [et]; exact Bool.false_ne_true), if_pos (show n.n = Ha05.NORMAL from e0)]
        exact R
      · have e0' : ¬ ni n.n = V.int 0 := fun z => e0 (ni_inj (b := 0) z)
        refine if_yes (by rw [decide_eq_false e0']; rfl) ?_
        refine ⟨_, rfl, L.w, dx, _, rfl, h1, wF_m_end, _, rfl, _, rfl, L, st, p, n.n, rfl, R, W, op, hz, fun L' H' R' S' => ?_⟩
        refine hQ L' H' ?_ S'
        unfold Ha05.hit
        rw [if_neg (by rw [et]; exact Bool.false_ne_true), if_neg (show ¬ n.n = Ha05.NORMAL from e0)]
        exact R'
/-- a signal with this number arrives at one who lives -/
def spGets (c : Cs) (j : Nat) : Sp := fun vs H Q _ => ∃ (L : Lay) (s : Ha05.St) (p q : Nat) (g : Addr) (x : Sig), vs = [.ref L.w, ni p, ni q, .ref g] ∧ sigNo x = j ∧ WRep c H L s ∧ SigAt H g x ∧ Wf s ∧ Ok s p ∧ Ok s q ∧ Sml 4000 s ∧
  (∀ k, x = .watch k → ∀ y ∈ (proc s q).watched, y.1 ≠ k) ∧ ∀ L' H', WRep c H' L' (Ha05.gets s p q x) → Step H L H' L' → Q .non H'
theorem cal_word (T : Txt K mg c) (D : Dfn K mg "word_arrives" s_word_arrives) (m_World_process : Met P w K mg base 1 c.w "process" (spProc c)) : Cal P w K mg base 2 "word_arrives" (spGets c 0) := by
  refine cal_of D sc_word_arrives (fun _ _ _ _ _ _ us hl => match us, hl with | [_, _, _, _], _ => rfl) (fun vs H Q E h => ?_) (fun f cdv A outer s H vs Q E hr h => ?_)
  · obtain ⟨_, _, _, _, _, _, rfl, _⟩ := h; rfl
  · obtain ⟨L, st, p, q, g, x, rfl, hno, R, hg, W, op, oq, hz, hw, hQ⟩ := h
    obtain ⟨dx, h1⟩ := R.ins
    obtain ⟨l, hl, Pr⟩ := R.prc oq
    obtain ⟨ex, hi⟩ := Pr.ins
    obtain ⟨vs, hb, hv⟩ := Pr.bx
    have hzp := sml_proc hz oq
    refine ⟨_, (pss_cons (ps_set (i := 4) sc_word_arrives.nd rfl (Or.inl rfl) (pe_mt m_World_process hr (by decide) (pv 0) (pa_cons (pv 2) pa_nil)))
    (pss_one (ps_expr (pe_bm PySem.F.plainAttrs_list PySem.F.slot_list_append PySem.F.type_list_append mt_append (pe_fld (pv 4) rfl) (pa_cons (pe_tup (pa_cons (pe_k T.k_WORD_CAME rfl) (pa_cons (pv 1) (pa_cons (pe_ix ix_tup (pv 3) pe_int (fun _ _ => rfl)) pa_nil)))) pa_nil))))), ?_⟩
    refine ⟨_, rfl, L.w, dx, _, rfl, h1, wF_m_process, _, rfl, L.w, dx, L.pr, _, _, q, _, rfl, h1, wF_processes, R.pr, oq.1, ps_get hl, ?_⟩
    cases x with
    | word n =>
      refine ⟨_, rfl, l.a, c.p, ex, _, _, rfl, hi, T.clP, T.n_box, pF_box, .inl ⟨rfl, _, SqL.of hb⟩, _, rfl, _, rfl, g, _, 1, _, rfl, rfl, SqT.of hg, rfl, (by show 3 ≤ sizeLine; decide), fun t ht => ?_⟩
      refine ⟨l.bx, vs, _, rfl, rfl, upd_new hb ht, ?_, ?_⟩
      · rw [← Paired.length hv]
        exact Nat.lt_of_le_of_lt (show _ ≤ 5000 by omega) (by decide)
      · have R0 := R.new (o := .tup [V.int 0, ni p, ni n]) ht
        have P0 := R0.ps _ _ _ hl (proc_some oq)
        obtain ⟨R1, S1⟩ := R0.note hl P0 (n := ⟨0, p, n⟩) (upd_new hb ht) (notes_mono (tups_upd fun xs e => by rw [ht] at e; cases e) hv) upd_same
        exact hQ L _ R1 ((Step.new ht).trans S1)
    | _ => simp [sigNo] at hno
theorem cal_link (T : Txt K mg c) (D : Dfn K mg "link_arrives" s_link_arrives) (m_World_process : Met P w K mg base 1 c.w "process" (spProc c)) : Cal P w K mg base 2 "link_arrives" (spGets c 1) := by
  refine cal_of D sc_link_arrives (fun _ _ _ _ _ _ us hl => match us, hl with | [_, _, _, _], _ => rfl) (fun vs H Q E h => ?_) (fun f cdv A outer s H vs Q E hr h => ?_)
  · obtain ⟨_, _, _, _, _, _, rfl, _⟩ := h; rfl
  · have hu := hu_of hr
    obtain ⟨L, st, p, q, g, x, rfl, hno, R, hg, W, op, oq, hz, hw, hQ⟩ := h
    obtain ⟨dx, h1⟩ := R.ins
    obtain ⟨l, hl, Pr⟩ := R.prc oq
    obtain ⟨ex, hi⟩ := Pr.ins
    obtain ⟨kvs, hli, hp⟩ := Pr.li
    have Pw := W.pwf oq
    have hzp := sml_proc hz oq
    refine ⟨_, (pss_cons (ps_set (i := 4) sc_link_arrives.nd rfl (Or.inl rfl) (pe_mt m_World_process hr (by decide) (pv 0) (pa_cons (pv 2) pa_nil)))
    (pss_one (ps_if (pt_cmp (pc_dnotin hu (pv 1) (pe_fld (pv 4) rfl))) (pss_one (ps_dput hu (pe_fld (pv 4) rfl) (pv 1) (pe_k T.k_HOLDS rfl) rfl)) pss_nil))), ?_⟩
    refine ⟨_, rfl, L.w, dx, _, rfl, h1, wF_m_process, _, rfl, L.w, dx, L.pr, _, _, q, _, rfl, h1, wF_processes, R.pr, oq.1, ps_get hl, ?_⟩
    cases x with
    | link =>
      refine ⟨_, rfl, _, rfl, l.a, c.p, ex, _, _, rfl, hi, T.clP, T.n_links, pF_links, l.li, _, rfl, DGet.k (k := Sum.inl (p : Int)) hli, _, rfl, ?_⟩
      have ev := links_val hp Pw.lsort p
      cases e : linkTo (proc st q) p with
      | some y =>
        have e' : ((proc st q).links.find? fun y => y.to == p) = some y := e
        rw [e'] at ev
        refine if_no (by rw [ev]; rfl) ?_
        refine hQ L H ?_ (Step.refl H L)
        simp only [Ha05.gets]
        rw [if_pos (by rw [e]; rfl)]
        exact R
      | none =>
        have e' : ((proc st q).links.find? fun y => y.to == p) = none := e
        rw [e'] at ev
        refine if_yes (by rw [ev]; rfl) ?_
        refine ⟨_, rfl, l.a, c.p, ex, _, _, rfl, hi, T.clP, T.n_links, pF_links, _, rfl, l.li, _, rfl, DPut.k (k := Sum.inl (p : Int)) hli ?_, ?_⟩
        · rw [links_len hp]
          exact Nat.lt_of_le_of_lt (show _ ≤ 5000 by omega) (by decide)
        · obtain ⟨R1, S1⟩ := R.linked hl Pr (links_put hp Pw.lsort p 0)
          refine hQ L _ ?_ S1
          simp only [Ha05.gets]
          rw [if_neg (by rw [e]; exact Bool.false_ne_true)]
          exact R1
    | _ => simp [sigNo] at hno
theorem cal_heard (T : Txt K mg c) (D : Dfn K mg "heard_arrives" s_heard_arrives) (m_World_process : Met P w K mg base 1 c.w "process" (spProc c)) : Cal P w K mg base 2 "heard_arrives" (spGets c 3) := by
  refine cal_of D sc_heard_arrives (fun _ _ _ _ _ _ us hl => match us, hl with | [_, _, _, _], _ => rfl) (fun vs H Q E h => ?_) (fun f cdv A outer s H vs Q E hr h => ?_)
  · obtain ⟨_, _, _, _, _, _, rfl, _⟩ := h; rfl
  · have hu := hu_of hr
    obtain ⟨L, st, p, q, g, x, rfl, hno, R, hg, W, op, oq, hz, hw, hQ⟩ := h
    obtain ⟨dx, h1⟩ := R.ins
    obtain ⟨l, hl, Pr⟩ := R.prc oq
    obtain ⟨ex, hi⟩ := Pr.ins
    obtain ⟨kvs, hli, hp⟩ := Pr.li
    have Pw := W.pwf oq
    refine ⟨_, (pss_cons (ps_set (i := 4) sc_heard_arrives.nd rfl (Or.inl rfl) (pe_mt m_World_process hr (by decide) (pv 0) (pa_cons (pv 2) pa_nil)))
    (pss_one (ps_if (pt_cmpR op_eq (pe_dget1 hu (pe_fld (pv 4) rfl) (pv 1) ⟨rfl, rfl, rfl, rfl⟩) (pe_ix ix_tup (pv 3) pe_int (fun _ _ => rfl)) (nomark _)) (pss_one (ps_expr (pe_dpop1 (pe_fld (pv 4) rfl) (pv 1) ⟨rfl, rfl, rfl, rfl⟩))) pss_nil))), ?_⟩
    refine ⟨_, rfl, L.w, dx, _, rfl, h1, wF_m_process, _, rfl, L.w, dx, L.pr, _, _, q, _, rfl, h1, wF_processes, R.pr, oq.1, ps_get hl, ?_⟩
    cases x with
    | heard k =>
      have ev := links_val hp Pw.lsort p
      refine ⟨_, rfl, l.a, c.p, ex, _, _, rfl, hi, T.clP, T.n_links, pF_links, l.li, rfl, .inl ⟨_, .inl hli⟩, _, rfl, _, DGet.k (k := Sum.inl (p : Int)) hli, _, rfl, g, _, 1, _, rfl, rfl, SqT.of hg, rfl, ?_⟩
      cases e : linkTo (proc st q) p with
      | none =>
        have e' : ((proc st q).links.find? fun y => y.to == p) = none := e
        rw [e'] at ev
        rw [ev]
        refine ⟨rfl, _, rfl, if_no rfl ?_⟩
        refine hQ L H ?_ (Step.refl H L)
        simp only [Ha05.gets, e]
        exact R
      | some y =>
        have e' : ((proc st q).links.find? fun y => y.to == p) = some y := e
        rw [e'] at ev
        rw [ev]
        refine ⟨rfl, _, rfl, ?_⟩
        by_cases ek : y.cutting = k
        · refine if_yes (decide_eq_true (congrArg ni ek)) ?_
          refine ⟨_, rfl, l.a, c.p, ex, _, _, rfl, hi, T.clP, T.n_links, pF_links, l.li, rfl, .inl ⟨_, .inl hli⟩, _, rfl, kvs, Sum.inl (p : Int), _, hli, rfl, ev, ?_⟩
          obtain ⟨R1, S1⟩ := R.linked hl Pr (links_drop hp p)
          refine hQ L _ ?_ S1
          simp only [Ha05.gets, e]
          rw [if_pos ek]
          exact R1
        · refine if_no (decide_eq_false fun z => ek (ni_inj z)) ?_
          refine hQ L H ?_ (Step.refl H L)
          simp only [Ha05.gets, e]
          rw [if_neg ek]
          exact R
    | _ => simp [sigNo] at hno
theorem cal_watch (T : Txt K mg c) (D : Dfn K mg "watch_arrives" s_watch_arrives) (m_World_process : Met P w K mg base 1 c.w "process" (spProc c)) : Cal P w K mg base 2 "watch_arrives" (spGets c 6) := by
  refine cal_of D sc_watch_arrives (fun _ _ _ _ _ _ us hl => match us, hl with | [_, _, _, _], _ => rfl) (fun vs H Q E h => ?_) (fun f cdv A outer s H vs Q E hr h => ?_)
  · obtain ⟨_, _, _, _, _, _, rfl, _⟩ := h; rfl
  · have hu := hu_of hr
    obtain ⟨L, st, p, q, g, x, rfl, hno, R, hg, W, op, oq, hz, hw, hQ⟩ := h
    obtain ⟨dx, h1⟩ := R.ins
    obtain ⟨l, hl, Pr⟩ := R.prc oq
    obtain ⟨ex, hi⟩ := Pr.ins
    obtain ⟨kvs, hli, hp⟩ := Pr.li
    have Pw := W.pwf oq
    have hzp := sml_proc hz oq
    refine ⟨_, (pss_cons (ps_set (i := 4) sc_watch_arrives.nd rfl (Or.inl rfl) (pe_mt m_World_process hr (by decide) (pv 0) (pa_cons (pv 2) pa_nil)))
    (pss_one (ps_dput hu (pe_fld (pv 4) rfl) (pe_ix ix_tup (pv 3) pe_int (fun _ _ => rfl)) (pv 1) rfl))), ?_⟩
    refine ⟨_, rfl, L.w, dx, _, rfl, h1, wF_m_process, _, rfl, L.w, dx, L.pr, _, _, q, _, rfl, h1, wF_processes, R.pr, oq.1, ps_get hl, ?_⟩
    cases x with
    | watch k =>
      refine ⟨_, rfl, _, rfl, l.a, c.p, ex, _, _, rfl, hi, T.clP, T.n_watched_by, pF_watched_by, _, rfl, g, _, 1, _, rfl, rfl, SqT.of hg, rfl, l.wd, _, rfl, DPut.k (k := Sum.inl (k : Int)) Pr.wd ?_, ?_⟩
      · rw [kvW_len]
        exact Nat.lt_of_le_of_lt (show _ ≤ 5000 by omega) (by decide)
      · rw [kvW_put (hw k rfl)]
        obtain ⟨R1, S1⟩ := R.watched hl Pr (ws := (proc st q).watched ++ [(k, p)])
        exact hQ L _ R1 S1
    | _ => simp [sigNo] at hno
theorem cal_unwatch (T : Txt K mg c) (D : Dfn K mg "unwatch_arrives" s_unwatch_arrives) (m_World_process : Met P w K mg base 1 c.w "process" (spProc c)) : Cal P w K mg base 2 "unwatch_arrives" (spGets c 7) := by
  refine cal_of D sc_unwatch_arrives (fun _ _ _ _ _ _ us hl => match us, hl with | [_, _, _, _], _ => rfl) (fun vs H Q E h => ?_) (fun f cdv A outer s H vs Q E hr h => ?_)
  · obtain ⟨_, _, _, _, _, _, rfl, _⟩ := h; rfl
  · have hu := hu_of hr
    obtain ⟨L, st, p, q, g, x, rfl, hno, R, hg, W, op, oq, hz, hw, hQ⟩ := h
    obtain ⟨dx, h1⟩ := R.ins
    obtain ⟨l, hl, Pr⟩ := R.prc oq
    obtain ⟨ex, hi⟩ := Pr.ins
    obtain ⟨kvs, hli, hp⟩ := Pr.li
    have Pw := W.pwf oq
    have hzp := sml_proc hz oq
    refine ⟨_, (pss_cons (ps_set (i := 4) sc_unwatch_arrives.nd rfl (Or.inl rfl) (pe_mt m_World_process hr (by decide) (pv 0) (pa_cons (pv 2) pa_nil)))
    (pss_one (ps_expr (pe_dpop2 (pe_fld (pv 4) rfl) (pe_ix ix_tup (pv 3) pe_int (fun _ _ => rfl)) pe_non ⟨rfl, rfl, rfl, rfl⟩)))), ?_⟩
    refine ⟨_, rfl, L.w, dx, _, rfl, h1, wF_m_process, _, rfl, L.w, dx, L.pr, _, _, q, _, rfl, h1, wF_processes, R.pr, oq.1, ps_get hl, ?_⟩
    cases x with
    | unwatch k =>
      refine ⟨_, rfl, l.a, c.p, ex, _, _, rfl, hi, T.clP, T.n_watched_by, pF_watched_by, l.wd, rfl, .inl ⟨_, .inl Pr.wd⟩, _, rfl, g, _, 1, _, rfl, rfl, SqT.of hg, rfl, _, Sum.inl (k : Int), Pr.wd, rfl, fun v ev => ?_, fun ev => ?_⟩
      · rw [kvW_drop]
        obtain ⟨R1, S1⟩ := R.watched hl Pr (ws := (proc st q).watched.filter fun y => y.1 != k)
        exact hQ L _ R1 S1
      · refine hQ L H ?_ (Step.refl H L)
        have ef : ((proc st q).watched.filter fun y => y.1 != k) = (proc st q).watched := by
          rw [kvW_val] at ev
          rw [List.filter_eq_self]
          intro a ha
          have h0 := List.find?_eq_none.mp (Option.map_eq_none_iff.mp ev) a ha
          simpa using h0
        show WRep c H L (setProc st q { proc st q with watched := (proc st q).watched.filter fun y => y.1 != k })
        rw [ef]
        show WRep c H L (setProc st q (proc st q))
        rw [set_proc oq]
        exact R
    | _ => simp [sigNo] at hno
theorem cal_gone (T : Txt K mg c) (D : Dfn K mg "gone_arrives" s_gone_arrives) (m_World_process : Met P w K mg base 1 c.w "process" (spProc c)) : Cal P w K mg base 2 "gone_arrives" (spGets c 8) := by
  refine cal_of D sc_gone_arrives (fun _ _ _ _ _ _ us hl => match us, hl with | [_, _, _, _], _ => rfl) (fun vs H Q E h => ?_) (fun f cdv A outer s H vs Q E hr h => ?_)
  · obtain ⟨_, _, _, _, _, _, rfl, _⟩ := h; rfl
  · have hu := hu_of hr
    obtain ⟨L, st, p, q, g, x, rfl, hno, R, hg, W, op, oq, hz, hw, hQ⟩ := h
    obtain ⟨dx, h1⟩ := R.ins
    obtain ⟨l, hl, Pr⟩ := R.prc oq
    obtain ⟨ex, hi⟩ := Pr.ins
    obtain ⟨kvs, hli, hp⟩ := Pr.li
    have Pw := W.pwf oq
    have hzp := sml_proc hz oq
    refine ⟨_, (pss_cons (ps_set (i := 4) sc_gone_arrives.nd rfl (Or.inl rfl) (pe_mt m_World_process hr (by decide) (pv 0) (pa_cons (pv 2) pa_nil)))
    (pss_one (ps_if (pt_cmp (pc_din hu (pe_ix ix_tup (pv 3) pe_int (fun _ _ => rfl)) (pe_fld (pv 4) rfl))) (pss_cons (ps_expr (pe_dpop1 (pe_fld (pv 4) rfl) (pe_ix ix_tup (pv 3) pe_int (fun _ _ => rfl)) ⟨rfl, rfl, rfl, rfl⟩))
    (pss_one (ps_expr (pe_bm PySem.F.plainAttrs_list PySem.F.slot_list_append PySem.F.type_list_append mt_append (pe_fld (pv 4) rfl) (pa_cons (pe_tup (pa_cons (pe_k T.k_WATCHED_ONE_ENDED rfl) (pa_cons (pe_ix ix_tup (pv 3) pe_int (fun _ _ => rfl)) (pa_cons (pe_ix ix_tup (pv 3) pe_int (fun _ _ => rfl)) pa_nil)))) pa_nil))))) pss_nil))), ?_⟩
    obtain ⟨vs, hb, hv⟩ := Pr.bx
    refine ⟨_, rfl, L.w, dx, _, rfl, h1, wF_m_process, _, rfl, L.w, dx, L.pr, _, _, q, _, rfl, h1, wF_processes, R.pr, oq.1, ps_get hl, ?_⟩
    cases x with
    | gone k why =>
      refine ⟨_, rfl, g, _, 1, _, rfl, rfl, SqT.of hg, rfl, _, rfl, l.a, c.p, ex, _, _, rfl, hi, T.clP, T.n_watches, pF_watches, l.wa, _, rfl, DGet.k (k := Sum.inl (k : Int)) Pr.wa, _, rfl, ?_⟩
      have ev := kvW_val k (proc st q).watches
      cases e : (proc st q).watches.find? fun y => y.1 == k with
      | none =>
        rw [e] at ev
        refine if_no (by rw [ev]; rfl) ?_
        refine hQ L H ?_ (Step.refl H L)
        have ea : ¬ ((proc st q).watches.any fun y => y.1 == k) = true := fun z => by
          obtain ⟨y, hy, hk⟩ := List.any_eq_true.mp z
          exact List.find?_eq_none.mp e y hy hk
        simp only [Ha05.gets]
        rw [if_neg ea]
        exact R
      | some y =>
        rw [e] at ev
        refine if_yes (by rw [ev]; rfl) ?_
        refine ⟨_, rfl, l.a, c.p, ex, _, _, rfl, hi, T.clP, T.n_watches, pF_watches, l.wa, rfl, .inl ⟨_, .inl Pr.wa⟩, _, rfl, g, _, 1, _, rfl, rfl, SqT.of hg, rfl, _, Sum.inl (k : Int), _, Pr.wa, rfl, ev, ?_⟩
        rw [kvW_drop]
        obtain ⟨R1, S1⟩ := R.watching hl Pr (ws := (proc st q).watches.filter fun y => y.1 != k)
        have o1 : Ok (setProc st q { proc st q with watches := (proc st q).watches.filter fun y => y.1 != k }) q := ok_set.mpr oq
        have P1 := R1.ps _ _ _ hl (proc_some o1)
        have ep : proc (setProc st q { proc st q with watches := (proc st q).watches.filter fun y => y.1 != k }) q = { proc st q with watches := (proc st q).watches.filter fun y => y.1 != k } := proc_same oq
        obtain ⟨ex1, hi1⟩ := P1.ins
        obtain ⟨vs1, hb1, hv1⟩ := P1.bx
        have hg1 := S1.tups R _ _ hg
        refine ⟨_, rfl, l.a, c.p, ex1, _, _, rfl, hi1, T.clP, T.n_box, pF_box, .inl ⟨rfl, _, SqL.of hb1⟩, _, rfl, g, _, 1, _, rfl, rfl, SqT.of hg1, rfl, _, rfl, g, _, 2, _, rfl, rfl, SqT.of hg1, rfl, (by show 3 ≤ sizeLine; decide), fun t ht => ?_⟩
        refine ⟨l.bx, vs1, _, rfl, rfl, upd_new hb1 ht, ?_, ?_⟩
        · rw [← Paired.length hv1, ep]
          exact Nat.lt_of_le_of_lt (show (proc st q).box.length ≤ 5000 by omega) (by decide)
        · have R2 := R1.new (o := .tup [V.int 2, ni k, ni why]) ht
          have P2 := R2.ps _ _ _ hl (proc_some o1)
          obtain ⟨R3, S3⟩ := R2.note hl P2 (n := ⟨2, k, why⟩) (upd_new hb1 ht) (notes_mono (tups_upd fun xs e => by rw [ht] at e; cases e) hv1) upd_same
          refine hQ L _ ?_ ((S1.trans (Step.new ht)).trans S3)
          have ea : ((proc st q).watches.any fun y => y.1 == k) = true := List.any_eq_true.mpr ⟨y, List.mem_of_find?_eq_some e, List.find?_some (p := fun y : Nat × Nat => y.1 == k) e⟩
          simp only [Ha05.gets]
          rw [if_pos ea]
          rw [ep, set_set] at R3
          exact R3
    | _ => simp [sigNo] at hno
theorem cal_cut (T : Txt K mg c) (D : Dfn K mg "cut_arrives" s_cut_arrives) (m_World_process : Met P w K mg base 1 c.w "process" (spProc c)) (m_Process_link_holds : Met P w K mg base 1 c.p "link_holds" (spHolds c)) (m_World_send : Met P w K mg base 3 c.w "send" (spSend c)) : Cal P w K mg base 4 "cut_arrives" (spGets c 2) := by
  refine cal_of D sc_cut_arrives (fun _ _ _ _ _ _ us hl => match us, hl with | [_, _, _, _], _ => rfl) (fun vs H Q E h => ?_) (fun f cdv A outer s H vs Q E hr h => ?_)
  · obtain ⟨_, _, _, _, _, _, rfl, _⟩ := h; rfl
  · have hu := hu_of hr
    obtain ⟨L, st, p, q, g, x, rfl, hno, R, hg, W, op, oq, hz, hw, hQ⟩ := h
    obtain ⟨dx, h1⟩ := R.ins
    obtain ⟨l, hl, Pr⟩ := R.prc oq
    obtain ⟨ex, hi⟩ := Pr.ins
    obtain ⟨kvs, hli, hp⟩ := Pr.li
    have Pw := W.pwf oq
    have hzp := sml_proc hz oq
    refine ⟨_, (pss_cons (ps_set (i := 4) sc_cut_arrives.nd rfl (Or.inl rfl) (pe_mt m_World_process hr (by decide) (pv 0) (pa_cons (pv 2) pa_nil)))
    (pss_cons (ps_if (pt_val (pe_mt m_Process_link_holds hr (by decide) (pv 4) (pa_cons (pv 1) pa_nil))) (pss_one (ps_expr (pe_dpop1 (pe_fld (pv 4) rfl) (pv 1) ⟨rfl, rfl, rfl, rfl⟩))) pss_nil)
    (pss_one (ps_expr (pe_mt m_World_send hr (by decide) (pv 0) (pa_cons (pv 2) (pa_cons (pv 1) (pa_cons (pe_tup (pa_cons (pe_k T.k_HEARD rfl) (pa_cons (pe_ix ix_tup (pv 3) pe_int (fun _ _ => rfl)) pa_nil))) pa_nil)))))))), ?_⟩
    refine ⟨_, rfl, L.w, dx, _, rfl, h1, wF_m_process, _, rfl, L.w, dx, L.pr, _, _, q, _, rfl, h1, wF_processes, R.pr, oq.1, ps_get hl, ?_⟩
    cases x with
    | cut k =>
      refine ⟨_, rfl, l.a, ex, _, rfl, hi, pF_m_link_holds, _, rfl, l.a, ex, l.li, _, kvs, _, rfl, hi, pF_links, hli, int_val hp Pw.lsort _, _, rfl, ?_⟩
      have hb := holds_val (q := p) hp Pw
      have ev := links_val hp Pw.lsort p
      -- what is sent behind
      have rest : ∀ (t : Ha05.St) (Ht : Hp), WRep c Ht L t → Step H L Ht L → Wf t → Ok t q → Ok t p → Sml 4000 t → Ha05.gets st p q (.cut k) = Ha05.send t q p (.heard k) →
          ∀ (u : Addr), Ht u = none → spSend c [.ref L.w, ni q, ni p, .ref u] (upd Ht u (.tup [ni 3, ni k])) (fun _ H' => Q .non H') E0 := fun t Ht Rt St Wt o1 o2 zt eg u hu => by
        refine ⟨L, t, q, p, u, .heard k, rfl, (Rt.new hu).srep, upd_same, Wt, o1, o2, Nat.le_trans zt.air (by decide), fun H2 S2 => ?_⟩
        obtain ⟨R2, S3⟩ := (Rt.new hu).sends S2
        refine hQ L H2 ?_ ((St.trans (Step.new hu)).trans S3)
        rw [eg, send_eq]
        exact R2
      cases e : linkTo (proc st q) p with
      | none =>
        rw [e] at hb
        refine if_no hb ?_
        refine ⟨_, rfl, L.w, dx, _, rfl, h1, wF_m_send, _, rfl, _, rfl, _, rfl, g, _, 1, _, rfl, rfl, SqT.of hg, rfl, (by show 2 ≤ sizeLine; decide), fun u hu => ?_⟩
        exact rest st H R (Step.refl H L) W oq op hz (by simp only [Ha05.gets, e]) u hu
      | some y =>
        rw [e] at hb
        have e' : ((proc st q).links.find? fun y => y.to == p) = some y := e
        rw [e'] at ev
        cases e0 : (y.cutting == 0) with
        | true =>
          refine if_yes (hb.trans e0) ?_
          refine ⟨_, rfl, l.a, c.p, ex, _, _, rfl, hi, T.clP, T.n_links, pF_links, l.li, rfl, .inl ⟨_, .inl hli⟩, _, rfl, kvs, Sum.inl (p : Int), _, hli, rfl, ev, ?_⟩
          obtain ⟨R1, S1⟩ := R.linked hl Pr (links_drop hp p)
          obtain ⟨dw, hw1⟩ := R1.ins
          have hg1 := S1.tups R _ _ hg
          refine ⟨_, rfl, L.w, dw, _, rfl, hw1, wF_m_send, _, rfl, _, rfl, _, rfl, g, _, 1, _, rfl, rfl, SqT.of hg1, rfl, (by show 2 ≤ sizeLine; decide), fun u hu => ?_⟩
          refine rest _ _ R1 S1 (wf_set W (pwf_without Pw)) (ok_set.mpr oq) (ok_set.mpr op) ?_ ?_ u hu
          · have := tw_without (w := one) oq e
            have hz' : tw one st ≤ 4000 := hz
            show tw one (setProc st q (without (proc st q) p)) ≤ 4000
            omega
          · have e1 : y.cutting = 0 := by simpa using e0
            simp only [Ha05.gets, e]
            rw [if_pos e1]
            rfl
        | false =>
          refine if_no (hb.trans e0) ?_
          refine ⟨_, rfl, L.w, dx, _, rfl, h1, wF_m_send, _, rfl, _, rfl, _, rfl, g, _, 1, _, rfl, rfl, SqT.of hg, rfl, (by show 2 ≤ sizeLine; decide), fun u hu => ?_⟩
          refine rest st H R (Step.refl H L) W oq op hz ?_ u hu
          have e1 : ¬ y.cutting = 0 := by simpa using e0
          simp only [Ha05.gets, e]
          rw [if_neg e1]
    | _ => simp [sigNo] at hno
theorem cal_ended (T : Txt K mg c) (D : Dfn K mg "ended_arrives" s_ended_arrives) (m_World_process : Met P w K mg base 1 c.w "process" (spProc c)) (m_Process_link_holds : Met P w K mg base 1 c.p "link_holds" (spHolds c)) (m_World_end_comes : Met P w K mg base 5 c.w "end_comes" (spEndComes c)) : Cal P w K mg base 6 "ended_arrives" (spGets c 4) := by
  refine cal_of D sc_ended_arrives (fun _ _ _ _ _ _ us hl => match us, hl with | [_, _, _, _], _ => rfl) (fun vs H Q E h => ?_) (fun f cdv A outer s H vs Q E hr h => ?_)
  · obtain ⟨_, _, _, _, _, _, rfl, _⟩ := h; rfl
  · have hu := hu_of hr
    obtain ⟨L, st, p, q, g, x, rfl, hno, R, hg, W, op, oq, hz, hw, hQ⟩ := h
    obtain ⟨dx, h1⟩ := R.ins
    obtain ⟨l, hl, Pr⟩ := R.prc oq
    obtain ⟨ex, hi⟩ := Pr.ins
    obtain ⟨kvs, hli, hp⟩ := Pr.li
    have Pw := W.pwf oq
    have hzp := sml_proc hz oq
    refine ⟨_, (pss_cons (ps_set (i := 4) sc_ended_arrives.nd rfl (Or.inl rfl) (pe_mt m_World_process hr (by decide) (pv 0) (pa_cons (pv 2) pa_nil)))
    (pss_cons (ps_if (pt_cmp (pc_dnotin hu (pv 1) (pe_fld (pv 4) rfl))) (pss_one ps_retN) pss_nil)
    (pss_cons (ps_set (i := 5) sc_ended_arrives.nd rfl (Or.inl rfl) (pe_mt m_Process_link_holds hr (by decide) (pv 4) (pa_cons (pv 1) pa_nil)))
    (pss_cons (ps_expr (pe_dpop1 (pe_fld (pv 4) rfl) (pv 1) ⟨rfl, rfl, rfl, rfl⟩))
    (pss_one (ps_if (pt_val (pv 5)) (pss_one (ps_expr (pe_mt m_World_end_comes hr (by decide) (pv 0) (pa_cons (pv 2) (pa_cons (pe_ix ix_tup (pv 3) pe_int (fun _ _ => rfl)) (pa_cons (pe_tup (pa_cons (pe_k T.k_LINKED_ONE_ENDED rfl) (pa_cons (pv 1) (pa_cons (pe_ix ix_tup (pv 3) pe_int (fun _ _ => rfl)) pa_nil)))) pa_nil)))))) pss_nil)))))), ?_⟩
    refine ⟨_, rfl, L.w, dx, _, rfl, h1, wF_m_process, _, rfl, L.w, dx, L.pr, _, _, q, _, rfl, h1, wF_processes, R.pr, oq.1, ps_get hl, ?_⟩
    cases x with
    | ended why =>
      refine ⟨_, rfl, _, rfl, l.a, c.p, ex, _, _, rfl, hi, T.clP, T.n_links, pF_links, l.li, _, rfl, DGet.k (k := Sum.inl (p : Int)) hli, _, rfl, ?_⟩
      have hb := holds_val (q := p) hp Pw
      have ev := links_val hp Pw.lsort p
      cases e : linkTo (proc st q) p with
      | none =>
        have e' : ((proc st q).links.find? fun y => y.to == p) = none := e
        rw [e'] at ev
        refine if_yes (by rw [ev]; rfl) ?_
        refine hQ L H ?_ (Step.refl H L)
        simp only [Ha05.gets, e]
        exact R
      | some y =>
        rw [e] at hb
        have e' : ((proc st q).links.find? fun y => y.to == p) = some y := e
        rw [e'] at ev
        refine if_no (by rw [ev]; rfl) ?_
        refine ⟨_, rfl, l.a, ex, _, rfl, hi, pF_m_link_holds, _, rfl, l.a, ex, l.li, _, kvs, _, rfl, hi, pF_links, hli, int_val hp Pw.lsort _, ?_⟩
        refine ⟨_, rfl, l.a, c.p, ex, _, _, rfl, hi, T.clP, T.n_links, pF_links, l.li, rfl, .inl ⟨_, .inl hli⟩, _, rfl, kvs, Sum.inl (p : Int), _, hli, rfl, ev, ?_⟩
        obtain ⟨R1, S1⟩ := R.linked hl Pr (links_drop hp p)
        obtain ⟨dw, hw1⟩ := R1.ins
        have hg1 := S1.tups R _ _ hg
        refine ⟨_, rfl, _, rfl, ?_⟩
        have eg : Ha05.gets st p q (.ended why) = if y.cutting = 0 then Ha05.hit (setProc st q (without (proc st q) p)) q ⟨1, p, why⟩ else setProc st q (without (proc st q) p) := by simp only [Ha05.gets, e]
        cases e0 : (y.cutting == 0) with
        | true =>
          have e1 : y.cutting = 0 := by simpa using e0
          refine if_yes (hb.trans e0) ?_
          refine ⟨_, rfl, L.w, dw, _, rfl, hw1, wF_m_end_comes, _, rfl, _, rfl, g, _, 1, _, rfl, rfl, SqT.of hg1, rfl, _, rfl, _, rfl, g, _, 1, _, rfl, rfl, SqT.of hg1, rfl, (by show 3 ≤ sizeLine; decide), fun u hu => ?_⟩
          refine ⟨L, _, q, u, ⟨1, p, why⟩, rfl, upd_same, R1.new hu, wf_set W (pwf_without Pw), ok_set.mpr oq, ?_, fun L' H' R' S' => ?_⟩
          · have := tw_without (w := one) oq e
            have hz' : tw one st ≤ 4000 := hz
            show tw one (setProc st q (without (proc st q) p)) ≤ 5000
            omega
          · refine hQ L' H' ?_ ((S1.trans (Step.new hu)).trans S')
            rw [eg, if_pos e1]
            exact R'
        | false =>
          have e1 : ¬ y.cutting = 0 := by simpa using e0
          refine if_no (hb.trans e0) ?_
          refine hQ L _ ?_ S1
          rw [eg, if_neg e1]
          exact R1
    | _ => simp [sigNo] at hno
theorem cal_stop (T : Txt K mg c) (D : Dfn K mg "stop_arrives" s_stop_arrives) (m_World_end : Met P w K mg base 4 c.w "end" (spEnd c)) (m_World_end_comes : Met P w K mg base 5 c.w "end_comes" (spEndComes c)) : Cal P w K mg base 6 "stop_arrives" (spGets c 5) := by
  refine cal_of D sc_stop_arrives (fun _ _ _ _ _ _ us hl => match us, hl with | [_, _, _, _], _ => rfl) (fun vs H Q E h => ?_) (fun f cdv A outer s H vs Q E hr h => ?_)
  · obtain ⟨_, _, _, _, _, _, rfl, _⟩ := h; rfl
  · have hu := hu_of hr
    obtain ⟨L, st, p, q, g, x, rfl, hno, R, hg, W, op, oq, hz, hw, hQ⟩ := h
    obtain ⟨dx, h1⟩ := R.ins
    obtain ⟨l, hl, Pr⟩ := R.prc oq
    obtain ⟨ex, hi⟩ := Pr.ins
    obtain ⟨kvs, hli, hp⟩ := Pr.li
    have Pw := W.pwf oq
    have hzp := sml_proc hz oq
    refine ⟨_, (pss_one (ps_if (pt_cmpR op_eq (pe_ix ix_tup (pv 3) pe_int (fun _ _ => rfl)) (pe_k T.k_TO_BE_KILLED rfl) (nomark _)) (pss_one (ps_expr (pe_mt m_World_end hr (by decide) (pv 0) (pa_cons (pv 2) (pa_cons (pe_k T.k_KILLED rfl) pa_nil))))) (pss_one (ps_expr (pe_mt m_World_end_comes hr (by decide) (pv 0) (pa_cons (pv 2) (pa_cons (pe_ix ix_tup (pv 3) pe_int (fun _ _ => rfl)) (pa_cons (pe_tup (pa_cons (pe_k T.k_END_WAS_SENT rfl) (pa_cons (pv 1) (pa_cons (pe_ix ix_tup (pv 3) pe_int (fun _ _ => rfl)) pa_nil)))) pa_nil)))))))), ?_⟩
    cases x with
    | halt_ why =>
      refine ⟨_, rfl, g, _, 1, _, rfl, rfl, SqT.of hg, rfl, rfl, _, rfl, ?_⟩
      by_cases e : why = 1
      · refine if_yes (decide_eq_true (congrArg ni e)) ?_
        refine ⟨_, rfl, L.w, dx, _, rfl, h1, wF_m_end, _, rfl, L, st, q, 2, rfl, R, W, oq, hz.mono (by decide), fun L' H' R' S' => ?_⟩
        refine hQ L' H' ?_ S'
        simp only [Ha05.gets]
        rw [if_pos (show why = Ha05.KILL from e)]
        exact R'
      · refine if_no (decide_eq_false fun z => e (ni_inj (b := 1) z)) ?_
        refine ⟨_, rfl, L.w, dx, _, rfl, h1, wF_m_end_comes, _, rfl, _, rfl, g, _, 1, _, rfl, rfl, SqT.of hg, rfl, _, rfl, _, rfl, g, _, 1, _, rfl, rfl, SqT.of hg, rfl, (by show 3 ≤ sizeLine; decide), fun u hu => ?_⟩
        refine ⟨L, st, q, u, ⟨3, p, why⟩, rfl, upd_same, R.new hu, W, oq, hz.mono (by decide), fun L' H' R' S' => ?_⟩
        refine hQ L' H' ?_ ((Step.new hu).trans S')
        simp only [Ha05.gets]
        rw [if_neg (show ¬ why = Ha05.KILL from e)]
        exact R'
    | _ => simp [sigNo] at hno
end
end PN
end
section
set_option maxRecDepth 100000
set_option maxHeartbeats 4000000
/-! A signal arrives. -/
namespace PN
open PySem PySem.Spec PyProof.Rows L2
open Ha05 (Proc Fly Sig Link Note flag sigTold proc nodeOf conn wire setProc linkTo notes without withLink)
theorem paired_erase {α β : Type} {F : α → β → Prop} : ∀ {l : List α} {m : List β} (i : Nat), Paired F l m → Paired F (l.eraseIdx i) (m.eraseIdx i)
  | _, _, _, .nil => .nil
  | _, _, 0, .cons _ t => t
  | _, _, i + 1, .cons a t => .cons a (paired_erase i t)
theorem seq_at {i n : Nat} (h : i < n) : seqIndex? (i : Int) n = some i := by
  refine (ixN_seq (n := n) (i := (i : Int)) (j := i) ?_).1
  unfold ixN
  rw [if_pos (by omega), if_pos (by omega)]
  simp
section
variable {P : Program} {w : World} {K : PySem.W.Frag} {mg : Str → Option Value} {base : Heap} {c : Cs}
def spDead (c : Cs) : Sp := fun vs H Q _ => ∃ (L : Lay) (s : Ha05.St) (p q : Nat) (g : Addr) (x : Sig), vs = [.ref L.w, ni p, ni q, .ref g] ∧ WRep c H L s ∧ SigAt H g x ∧ Wf s ∧ Ok s p ∧ Ok s q ∧ Sml 4000 s ∧
  ∀ L' H', WRep c H' L' (Ha05.deadGets s p q x) → Step H L H' L' → Q .non H'
theorem cal_dead (T : Txt K mg c) (D : Dfn K mg "arrives_at_ended" s_arrives_at_ended) (c_comes_back : Cal P w K mg base 1 "comes_back" spBack) (m_World_send : Met P w K mg base 3 c.w "send" (spSend c)) :
    Cal P w K mg base 4 "arrives_at_ended" (spDead c) := by
  refine cal_of D sc_arrives_at_ended (fun _ _ _ _ _ _ us hl => match us, hl with | [_, _, _, _], _ => rfl) (fun vs H Q E h => ?_) (fun f cdv A outer s H vs Q E hr h => ?_)
  · obtain ⟨_, _, _, _, _, _, rfl, _⟩ := h; rfl
  · obtain ⟨L, st, p, q, g, x, rfl, R, hg, W, op, oq, hz, hQ⟩ := h
    obtain ⟨dx, h1⟩ := R.ins
    refine ⟨_, (pss_cons (ps_set (i := 4) sc_arrives_at_ended.nd rfl (Or.inl rfl) (pe_c c_comes_back hr (by decide) rfl (pa_cons (pv 3) (pa_cons (pe_k T.k_NOBODY_THERE rfl) pa_nil))))
    (pss_one (ps_if (pt_cmp (pc_notN (pv 4))) (pss_one (ps_expr (pe_mt m_World_send hr (by decide) (pv 0) (pa_cons (pv 2) (pa_cons (pv 1) (pa_cons (pv 4) pa_nil)))))) pss_nil))), ?_⟩
    refine ⟨_, rfl, g, x, 3, rfl, hg, fun e => ?_, fun y e t ht => ?_⟩
    · refine ⟨_, rfl, _, rfl, if_no rfl ?_⟩
      refine hQ L H ?_ (Step.refl H L)
      rw [dead_none e]
      exact R
    · refine ⟨_, rfl, _, rfl, if_yes rfl ?_⟩
      refine ⟨_, rfl, L.w, dx, _, rfl, upd_new h1 ht, wF_m_send, _, rfl, _, rfl, _, rfl, L, st, q, p, t, y, rfl, (R.new ht).srep, upd_same, W, oq, op, Nat.le_trans hz.air (by decide), fun H2 S2 => ?_⟩
      obtain ⟨R2, S3⟩ := (R.new ht).sends S2
      refine hQ L H2 ?_ ((Step.new ht).trans S3)
      rw [dead_some e, send_eq]
      exact R2
def spCounts (c : Cs) : Sp := fun vs H Q _ => ∃ (L : Lay) (s : Ha05.St) (p q k : Nat), vs = [.ref L.w, ni p, ni q, ni k] ∧ WRep c H L s ∧ Wf s ∧ Ok s p ∧ Ok s q ∧ (k ≠ 0 → nodeOf s p ≠ nodeOf s q) ∧
  ∀ H', WRep c H' L s → Step H L H' L → Same H H' → Q (.bl (k == 0 || k == conn s (nodeOf s q) (nodeOf s p))) H'
theorem cal_counts (T : Txt K mg c) (D : Dfn K mg "counts" s_counts) (m_World_process : Met P w K mg base 1 c.w "process" (spProc c)) : Cal P w K mg base 2 "counts" (spCounts c) := by
  refine cal_of D sc_counts (fun _ _ _ _ _ _ us hl => match us, hl with | [_, _, _, _], _ => rfl) (fun vs H Q E h => ?_) (fun f cdv A outer s H vs Q E hr h => ?_)
  · obtain ⟨_, _, _, _, _, rfl, _⟩ := h; rfl
  · have hu := hu_of hr
    obtain ⟨L, st, p, q, k, rfl, R, W, op, oq, hn, hQ⟩ := h
    obtain ⟨dx, h1⟩ := R.ins
    obtain ⟨l, hl, Pr⟩ := R.prc oq
    obtain ⟨m, hm, Pm⟩ := R.prc op
    obtain ⟨ex, hi⟩ := Pr.ins
    obtain ⟨fx, hj⟩ := Pm.ins
    refine ⟨_, (pss_cons (ps_if (pt_cmpR op_eq (pv 3) (pe_k T.k_WITHIN_A_NODE rfl) (nomark _)) (pss_one (ps_ret pe_bl)) pss_nil)
    (pss_cons (ps_set (i := 4) sc_counts.nd rfl (Or.inl rfl) (pe_fld (pe_mt m_World_process hr (by decide) (pv 0) (pa_cons (pv 2) pa_nil)) rfl))
    (pss_cons (ps_set (i := 5) sc_counts.nd rfl (Or.inl rfl) (pe_fld (pe_mt m_World_process hr (by decide) (pv 0) (pa_cons (pv 1) pa_nil)) rfl))
    (pss_one (ps_ret (pe_cmpR op_eq (pe_dget hu (pe_fld (pv 0) rfl) (pe_tup (pa_cons (pv 4) (pa_cons (pv 5) pa_nil))) (fun _ _ => rfl)) (pv 3) (nomark _))))))), ?_⟩
    refine ⟨_, rfl, rfl, _, rfl, ?_⟩
    by_cases e : k = 0
    · refine if_yes (decide_eq_true (congrArg ni e)) ?_
      have := hQ H R (Step.refl H L) (Same.refl H)
      rw [e] at this
      exact this
    · refine if_no (decide_eq_false fun z => e (ni_inj (b := 0) z)) ?_
      refine ⟨_, rfl, L.w, dx, _, rfl, h1, wF_m_process, _, rfl, L.w, dx, L.pr, _, _, q, _, rfl, h1, wF_processes, R.pr, oq.1, ps_get hl, ?_⟩
      refine ⟨l.a, c.p, ex, _, _, rfl, hi, T.clP, T.n_node, pF_node, ?_⟩
      refine ⟨_, rfl, L.w, dx, _, rfl, h1, wF_m_process, _, rfl, L.w, dx, L.pr, _, _, p, _, rfl, h1, wF_processes, R.pr, op.1, ps_get hm, ?_⟩
      refine ⟨m.a, c.p, fx, _, _, rfl, hj, T.clP, T.n_node, pF_node, ?_⟩
      refine ⟨_, rfl, L.w, c.w, dx, _, _, rfl, h1, T.clW, T.n_connections, wF_connections, _, rfl, _, rfl, (by show 2 ≤ sizeLine; decide), fun t ht => ?_⟩
      refine ⟨L.cn, _, rfl, (valC (s := st) (W.node oq) (W.node op) (fun z => hn e z.symm)) ▸ DGet.t (k := kk (nodeOf st q) (nodeOf st p)) (upd_new R.cn ht) upd_same, _, rfl, rfl, ?_⟩
      have := hQ _ (R.new (o := .tup [ni (nodeOf st q), ni (nodeOf st p)]) ht) (Step.new ht) (fun b o e => upd_new e ht)
      have eb : (k == 0 || k == conn st (nodeOf st q) (nodeOf st p)) = decide (ni (conn st (nodeOf st q) (nodeOf st p)) = ni k) := by
        by_cases z : k = conn st (nodeOf st q) (nodeOf st p)
        · rw [decide_eq_true (congrArg ni z.symm)]
          simp [z]
        · rw [decide_eq_false fun y => z (ni_inj y).symm]
          simp [z, e]
      rw [eb] at this
      exact this
def spArrive (c : Cs) : Sp := fun vs H Q _ => ∃ (L : Lay) (s : Ha05.St) (i : Nat) (y : Fly), vs = [.ref L.w, ni i] ∧ WRep c H L s ∧ Wf s ∧ s.air[i]? = some y ∧ Sml 3000 s ∧ (∀ k, y.what = .watch k → ∀ z ∈ (proc s y.to).watched, z.1 ≠ k) ∧
  ∀ L' H', WRep c H' L' (Ha05.comes { s with air := s.air.eraseIdx i } y) → Step H L H' L' → Q (.bl (Ha05.counts s y)) H'
theorem cal_arrive (T : Txt K mg c) (D : Dfn K mg "arrive" s_arrive) (c_counts : Cal P w K mg base 2 "counts" (spCounts c)) (c_arrives_at_ended : Cal P w K mg base 4 "arrives_at_ended" (spDead c))
    (m_World_process : Met P w K mg base 1 c.w "process" (spProc c)) (hG : ∀ (j : Nat) (f : Addr), c.gs[j]? = some f → Held P w K mg base 6 f (spGets c j)) : Cal P w K mg base 7 "arrive" (spArrive c) := by
  refine cal_of D sc_arrive (fun _ _ _ _ _ _ us hl => match us, hl with | [_, _], _ => rfl) (fun vs H Q E h => ?_) (fun f cdv A outer s H vs Q E hr h => ?_)
  · obtain ⟨_, _, _, _, rfl, _⟩ := h; rfl
  · obtain ⟨L, st, i, y, rfl, R, W, hy, hz, hw, hQ⟩ := h
    have CALLEES : ∀ f sp, (∃ j, c.gs[j]? = some f ∧ sp = spGets c j) → Held P w K mg base 6 f sp := fun f sp ⟨j, e1, e2⟩ => e2 ▸ hG j f e1
    obtain ⟨dx, h1⟩ := R.ins
    obtain ⟨vs, ha, hv⟩ := R.ai
    obtain ⟨v, hvi, t, g, rfl, ht, hg⟩ := paired_get hv hy
    have li : i < st.air.length := (List.getElem?_eq_some_iff.mp hy).1
    have lv : vs.length = st.air.length := (Paired.length hv).symm
    have FO := W.ar y (List.mem_of_getElem? hy)
    have nt : t ≠ L.ai := ne_of ht ha (fun z => nomatch z)
    have ng : g ≠ L.ai := ne_of hg ha (fun z => nomatch z)
    have R1 : WRep c (upd H L.ai (.lst (vs.eraseIdx i))) L { st with air := st.air.eraseIdx i } := by
      refine R.air (fun b o e n => upd_keep e n) upd_same (paired_erase i (flies_mono (tups_upd fun xs e => ?_) hv))
      rw [ha] at e
      cases e
    have S1 : Step H L (upd H L.ai (.lst (vs.eraseIdx i))) L := Step.same fun b o e n => upd_off mem_ai n e
    have ht1 := upd_keep (u := .lst (vs.eraseIdx i)) ht nt
    have hg1 : SigAt (upd H L.ai (.lst (vs.eraseIdx i))) g y.what := upd_keep hg ng
    have W1 : Wf { st with air := st.air.eraseIdx i } := wf_air W fun z hz => List.mem_of_mem_eraseIdx hz
    have hsz : i ≤ 3000 := Nat.le_trans (Nat.le_of_lt li) hz.air
    have FO1 : FlyOk { st with air := st.air.eraseIdx i } y := ⟨FO.fr, FO.to, FO.far⟩
    refine ⟨_, (pss_cons (ps_set (i := 2) sc_arrive.nd rfl (Or.inl rfl) (pe_bm PySem.F.plainAttrs_list PySem.F.slot_list_pop PySem.F.type_list_pop mt_popAt (pe_fld (pv 0) rfl) (pa_cons (pv 1) pa_nil)))
    (pss_cons (ps_set (i := 3) sc_arrive.nd rfl (Or.inl rfl) (pe_ix ix_tup (pv 2) pe_int (fun _ _ => rfl)))
    (pss_cons (ps_set (i := 4) sc_arrive.nd rfl (Or.inl rfl) (pe_ix ix_tup (pv 2) pe_int (fun _ _ => rfl)))
    (pss_cons (ps_set (i := 5) sc_arrive.nd rfl (Or.inl rfl) (pe_ix ix_tup (pv 2) pe_int (fun _ _ => rfl)))
    (pss_cons (ps_if (pt_not (pt_val (pe_c c_counts hr (by decide) rfl (pa_cons (pv 0) (pa_cons (pv 3) (pa_cons (pv 4) (pa_cons (pe_ix ix_tup (pv 2) pe_int (fun _ _ => rfl)) pa_nil))))))) (pss_one (ps_ret pe_bl)) pss_nil)
    (pss_cons (ps_if (pt_val (pe_fld (pe_mt m_World_process hr (by decide) (pv 0) (pa_cons (pv 4) pa_nil)) rfl)) (pss_cons (ps_set (i := 6) sc_arrive.nd rfl (Or.inl rfl) (pe_ix ix_tup (pe_glob (v := .ref c.live) rfl T.m_AT_ONE_WHO_LIVES rfl) (pe_ix ix_tup (pv 5) pe_int (fun _ _ => rfl)) (fun _ _ => rfl)))
    (pss_one (ps_expr (pe_callR (i := 6) CALLEES hr rfl (Or.inl rfl) (pa_cons (pv 0) (pa_cons (pv 3) (pa_cons (pv 4) (pa_cons (pv 5) pa_nil)))))))) (pss_one (ps_expr (pe_c c_arrives_at_ended hr (by decide) rfl (pa_cons (pv 0) (pa_cons (pv 3) (pa_cons (pv 4) (pa_cons (pv 5) pa_nil))))))))
    (pss_one (ps_ret pe_bl)))))))), ?_⟩
    refine ⟨_, rfl, L.w, c.w, dx, _, _, rfl, h1, T.clW, T.n_air, wF_air, .inl ⟨rfl, _, SqL.of ha⟩, _, rfl, L.ai, vs, _, i, _, rfl, rfl, ha, (by omega), (by omega), seq_at (by omega), hvi, ?_⟩
    refine ⟨_, rfl, t, _, 0, _, rfl, rfl, SqT.of ht1, rfl, ?_⟩
    refine ⟨_, rfl, t, _, 1, _, rfl, rfl, SqT.of ht1, rfl, ?_⟩
    refine ⟨_, rfl, t, _, 2, _, rfl, rfl, SqT.of ht1, rfl, ?_⟩
    refine ⟨_, rfl, _, rfl, _, rfl, _, rfl, t, _, 3, _, rfl, rfl, SqT.of ht1, rfl, L, _, y.from_, y.to, y.by_, rfl, R1, W1, FO1.fr, FO1.to, FO1.far, fun H2 R2 S2 same => ?_⟩
    refine ⟨_, rfl, ?_⟩
    have ec : Ha05.counts st y = (y.by_ == 0 || y.by_ == conn { st with air := st.air.eraseIdx i } (nodeOf { st with air := st.air.eraseIdx i } y.to) (nodeOf { st with air := st.air.eraseIdx i } y.from_)) := rfl
    have ec1 : Ha05.counts { st with air := st.air.eraseIdx i } y = Ha05.counts st y := rfl
    rw [← ec]
    have S12 := S1.trans S2
    have hg2 : SigAt H2 g y.what := same _ _ hg1
    cases e : Ha05.counts st y with
    | false =>
      refine if_yes rfl ?_
      have := hQ L H2
      rw [e] at this
      refine this ?_ S12
      unfold Ha05.comes
      rw [if_neg (by rw [ec1, e]; exact Bool.false_ne_true)]
      exact R2
    | true =>
      refine if_no rfl ?_
      have hQ' : ∀ L' H', WRep c H' L' (Ha05.arrives { st with air := st.air.eraseIdx i } y.from_ y.to y.what) → Step H L H' L' → Q (.bl true) H' := fun L' H' R' S' => by
        have := hQ L' H'
        rw [e] at this
        refine this ?_ S'
        unfold Ha05.comes
        rw [if_pos (by rw [ec1, e])]
        exact R'
      obtain ⟨dx2, h2⟩ := R2.ins
      obtain ⟨l, hl, Pr⟩ := R2.prc FO1.to
      obtain ⟨ex, hi⟩ := Pr.ins
      refine ⟨_, rfl, L.w, dx2, _, rfl, h2, wF_m_process, _, rfl, L.w, dx2, L.pr, _, _, y.to, _, rfl, h2, wF_processes, R2.pr, FO1.to.1, ps_get hl, ?_⟩
      refine ⟨l.a, c.p, ex, _, _, rfl, hi, T.clP, T.n_lives, pF_lives, _, rfl, ?_⟩
      have z1 : Sml 4000 { st with air := st.air.eraseIdx i } := by
        have a1 := aw_erase one st.air i y hy
        have a2 : aw one st.air + qw one st.procs ≤ 3000 := hz
        show aw one (st.air.eraseIdx i) + qw one st.procs ≤ 4000
        omega
      cases el : (proc { st with air := st.air.eraseIdx i } y.to).lives with
      | true =>
        refine if_yes rfl ?_
        have es : (sigTold y.what).map ni = ni (sigNo y.what) :: ((sigTold y.what).map ni).tail := by cases y.what <;> rfl
        obtain ⟨fa, hfa⟩ : ∃ fa, c.gs[sigNo y.what]? = some fa := by
          have : sigNo y.what < 9 := by cases y.what <;> simp [sigNo]
          exact ⟨c.gs[sigNo y.what]'(by rw [T.l_gs]; exact this), List.getElem?_eq_getElem _⟩
        refine ⟨_, rfl, g, _, 0, _, rfl, rfl, SqT.of hg2, ?_, c.live, _, _, .ref fa, rfl, rfl, T.t_LIVE H2, at_of (j := sigNo y.what) rfl (by rw [List.getElem?_map, hfa]; rfl), ?_⟩
        · rw [es]
          exact at_of (j := 0) rfl rfl
        · refine ⟨fa, _, rfl, ⟨_, hfa, rfl⟩, _, rfl, _, rfl, _, rfl, _, rfl, L, _, y.from_, y.to, g, y.what, rfl, rfl, R2, hg2, W1, FO1.fr, FO1.to, z1, hw, fun L' H' R' S' => ?_⟩
          refine hQ' L' H' ?_ (S12.trans S')
          unfold Ha05.arrives
          rw [if_pos (by unfold Ha05.lives; rw [isThere_iff.mpr FO1.to, el]; rfl)]
          exact R'
      | false =>
        refine if_no rfl ?_
        refine ⟨_, rfl, _, rfl, _, rfl, _, rfl, L, _, y.from_, y.to, g, y.what, rfl, R2, hg2, W1, FO1.fr, FO1.to, z1, fun L' H' R' S' => ?_⟩
        refine hQ' L' H' ?_ (S12.trans S')
        unfold Ha05.arrives
        rw [if_neg (by unfold Ha05.lives; rw [isThere_iff.mpr FO1.to, el]; exact Bool.false_ne_true)]
        exact R'
end
end PN
end
section
set_option maxRecDepth 100000
set_option maxHeartbeats 4000000
/-! The calls deliver and turns. -/
namespace PN
open PySem PySem.Spec PyProof.Rows L2
open Ha05 (Proc Fly Sig Link Note flag sigTold proc nodeOf conn wire setProc linkTo notes without withLink)
structure Stp (H : Hp) (L : Lay) (H' : Hp) (L' : Lay) : Prop where
  frame : ∀ b o, H b = some o → b ∉ L.ads → H' b = some o
  fresh : ∀ b ∈ L'.ads, b ∈ L.ads ∨ H b = none
  w : L'.w = L.w
theorem Step.stp {H H' : Hp} {L L' : Lay} (S : Step H L H' L') : Stp H L H' L' := ⟨S.frame, S.fresh, S.w⟩
theorem Stp.refl (H : Hp) (L : Lay) : Stp H L H L := (Step.refl H L).stp
theorem Stp.out {H H' : Hp} {L L' : Lay} (S : Stp H L H' L') {q : Addr} {o : HO} (h : H q = some o) (n : q ∉ L.ads) : q ∉ L'.ads := fun m => by
  rcases S.fresh q m with e | e
  · exact n e
  · rw [h] at e; cases e
theorem Stp.trans {H H1 H2 : Hp} {L L1 L2 : Lay} (a : Stp H L H1 L1) (b : Stp H1 L1 H2 L2) : Stp H L H2 L2 := by
  refine ⟨fun x o h n => b.frame x o (a.frame x o h n) (a.out h n), fun x hx => ?_, b.w.trans a.w⟩
  rcases b.fresh x hx with e | e
  · exact a.fresh x e
  · by_cases m : x ∈ L.ads
    · exact .inl m
    · refine .inr ?_
      cases q : H x with
      | none => rfl
      | some o =>
        rw [a.frame x o q m] at e
        cases e
/-- a call's end: the world behind it and a list of what is answered -/
def Told (c : Cs) (H : Hp) (L : Lay) (r : Ha05.St × List Int) (Q : VK) : Prop := ∀ L' H' a, WRep c H' L' r.1 → Stp H L H' L' → (∀ b o, H b = some o → b ∉ L.ads → b ≠ a) → a ∉ L'.ads → H' a = some (.lst (r.2.map V.int)) → Q (.ref a) H'
def spCall (c : Cs) (j : Nat) : Sp := fun vs H Q _ => ∃ (L : Lay) (s : Ha05.St) (args : List Nat) (cl : Ha05.Call), vs = .ref L.w :: args.map ni ∧ Ha05Neutral.callIn [j :: args] = some cl ∧ WRep c H L s ∧ Good 1000 s ∧ Told c H L (Ha05.step s cl) Q
section
variable {P : Program} {w : World} {K : PySem.W.Frag} {mg : Str → Option Value} {base : Heap} {c : Cs}
theorem Told.fin {H H1 : Hp} {L L1 : Lay} {r : Ha05.St × List Int} {Q : VK} (h : Told c H L r Q) {s1 : Ha05.St} {xs : List V} {a : Addr} (R : WRep c H1 L1 s1) (S : Stp H L H1 L1) (na : H1 a = none) (e : r = (s1, r.2)) (ex : xs = r.2.map V.int) : Q (.ref a) (upd H1 a (.lst xs)) := by
  have e1 : r.1 = s1 := by rw [e]
  subst ex
  refine h L1 _ a (by rw [e1]; exact R.new na) ?_ (fun b o hb n => ne_of_none (S.frame b o hb n) na) (R.out na) upd_same
  exact ⟨fun b o hb n => upd_new (S.frame b o hb n) na, S.fresh, S.w⟩
/-- nothing changes: a refusal, or what is told alone -/
theorem Told.one {H : Hp} {L : Lay} {r : Ha05.St × List Int} {Q : VK} (h : Told c H L r Q) {s : Ha05.St} {xs : List V} {a : Addr} {z : List Int} (R : WRep c H L s) (na : H a = none) (e : r = (s, z)) (ex : xs = z.map V.int) : Q (.ref a) (upd H a (.lst xs)) :=
  h.fin R (Stp.refl H L) na (by rw [e]) (by rw [e]; exact ex)
theorem has_eq {H : Hp} {L : Lay} {s : Ha05.St} (R : WRep c H L s) (p : Nat) : decide (1 ≤ p ∧ p ≤ (L.ps.map fun l => V.ref l.a).length) = Ha05.isThere s p := by
  rw [List.length_map, R.len]
  unfold Ha05.isThere
  by_cases h1 : 1 ≤ p <;> by_cases h2 : p ≤ s.procs.length <;> simp [h1, h2]
theorem one_le {n : Nat} (h : n ≤ 1000 := by decide) : n ≤ sizeLine := Nat.le_trans h (by decide)
def spOne : Sp := fun vs H Q _ => ∃ b : Bool, vs = [.bl b] ∧ Q (ni (flag b)) H
theorem cal_one (T : Txt K mg c) (D : Dfn K mg "one_if" s_one_if) : Cal P w K mg base 1 "one_if" spOne := by
  refine cal_of D sc_one_if (fun _ _ _ _ _ _ us hl => match us, hl with | [_], _ => rfl) (fun vs H Q E h => ?_) (fun f cdv A outer s H vs Q E hr h => ?_)
  · obtain ⟨_, rfl, _⟩ := h; rfl
  · obtain ⟨b, rfl, hQ⟩ := h
    refine ⟨_, (pss_one (ps_ret (pe_ifExp (pt_val (pv 0)) pe_int pe_int))), ?_⟩
    refine ⟨_, rfl, _, rfl, ?_⟩
    cases b with
    | true => exact if_yes rfl hQ
    | false => exact if_no rfl hQ
def spPlace (c : Cs) : Sp := fun vs H Q _ => ∃ (L : Lay) (s : Ha05.St) (p q : Nat), vs = [.ref L.w, ni p, ni q] ∧ WRep c H L s ∧
  (∀ i H', Ha05.firstOf s p q = some i → WRep c H' L s → Step H L H' L → Q (ni i) H') ∧ (∀ H', Ha05.firstOf s p q = none → WRep c H' L s → Step H L H' L → Q .non H')
theorem cal_place (T : Txt K mg c) (D : Dfn K mg "place_of_first" s_place_of_first) : Cal P w K mg base 1 "place_of_first" (spPlace c) := by
  refine cal_of D sc_place_of_first (fun _ _ _ _ _ _ us hl => match us, hl with | [_, _, _], _ => rfl) (fun vs H Q E h => ?_) (fun f cdv A outer s H vs Q E hr h => ?_)
  · obtain ⟨_, _, _, _, rfl, _⟩ := h; rfl
  · obtain ⟨L, st, p, q, rfl, R, hS, hN⟩ := h
    obtain ⟨dx, h1⟩ := R.ins
    obtain ⟨vs, ha, hv⟩ := R.ai
    have lv : vs.length = st.air.length := (Paired.length hv).symm
    refine ⟨_, (pss_cons (ps_for PassesOwn.never rfl (pi_enum (by rfl) T.m_enumerate (pa_cons (pe_fld (pv 0) rfl) pa_nil)) (pg_tup rfl (pgs_cons (pg_name (i := 3) sc_place_of_first.nd rfl (Or.inl rfl)) (pgs_cons (pg_name (i := 4) sc_place_of_first.nd rfl (Or.inl rfl)) pgs_nil)))
    (pss_one (ps_if (PW.pt (pw_and (pt_cmpR op_eq (pe_ix ix_tup (pv 4) pe_int (fun _ _ => rfl)) (pv 1) (nomark _)) (pw_and1 (pt_cmpR op_eq (pe_ix ix_tup (pv 4) pe_int (fun _ _ => rfl)) (pv 2) (nomark _))))) (pss_one (ps_ret (pv 3))) pss_nil)))
    (pss_one (ps_ret pe_non))), ?_⟩
    refine ⟨_, rfl, L.w, c.w, dx, _, _, rfl, h1, T.clW, T.n_air, wF_air, L.ai, vs, rfl, SqL.of ha, for_it (walk_enum (xs := vs))
      (fun i σ H' => ∃ v3 v4 : Option V, σ = [some (.ref L.w), some (ni p), some (ni q), v3, v4] ∧ WRep c H' L st ∧ Step H L H' L ∧ H' L.ai = some (.lst vs) ∧ Paired (FlyAt H') st.air vs ∧ ∀ j y, j < i → st.air[j]? = some y → (y.from_ == p && y.to == q) = false)
      ⟨none, none, rfl, R, Step.refl H L, ha, hv, fun j y hj => absurd hj (Nat.not_lt_zero j)⟩ (fun i σ H' _ ⟨_, _, _, _, _, z, _⟩ => SqL.of z) ?_ ?_⟩
    · rintro i v σ Hx H' hlt ⟨v3, v4, rfl, R1, S1, ha1, hv1, hno⟩ ⟨Tt, vi, vs', rfl, nT, rfl, ei, es⟩
      have li : i < st.air.length := by omega
      have hy : st.air[i]? = some st.air[i] := List.getElem?_eq_getElem li
      obtain ⟨v, hvi, t, g, rfl, ht, hg⟩ := paired_get hv1 hy
      have es' : vs[i]? = some vs' := es
      rw [hvi] at es'
      cases es'
      cases ei
      have ht' := upd_new (u := .tup [V.int (i : Nat), .ref t]) ht nT
      have R2 := R1.new (o := .tup [V.int (i : Nat), .ref t]) nT
      have S2 := S1.trans (Step.new (L := L) (o := .tup [V.int (i : Nat), .ref t]) nT)
      refine ⟨Tt, _, rfl, SqT.of upd_same, rfl, _, _, rfl, _, _, rfl, rfl, ?_⟩
      refine ⟨_, rfl, t, _, 0, _, rfl, rfl, SqT.of ht', rfl, _, rfl, rfl, _, rfl, ?_⟩
      have next : (st.air[i].from_ == p && st.air[i].to == q) = false → ∃ v3 v4 : Option V, [some (.ref L.w), some (ni p), some (ni q), some (V.int (i : Nat)), some (.ref t)] = [some (.ref L.w), some (ni p), some (ni q), v3, v4] ∧ WRep c (upd Hx Tt (.tup [V.int (i : Nat), .ref t])) L st ∧ Step H L (upd Hx Tt (.tup [V.int (i : Nat), .ref t])) L ∧
          (upd Hx Tt (.tup [V.int (i : Nat), .ref t])) L.ai = some (.lst vs) ∧ Paired (FlyAt (upd Hx Tt (.tup [V.int (i : Nat), .ref t]))) st.air vs ∧ ∀ j y, j < i + 1 → st.air[j]? = some y → (y.from_ == p && y.to == q) = false := fun hf => by
        refine ⟨_, _, rfl, R2, S2, upd_new ha1 nT, flies_mono (tups_upd fun xs e => by rw [nT] at e; cases e) hv1, fun j y hj hjy => ?_⟩
        by_cases ej : j = i
        · rw [ej, hy] at hjy
          cases hjy
          exact hf
        · exact hno j y (by omega) hjy
      by_cases e1 : st.air[i].from_ = p
      · refine if_yes (decide_eq_true (congrArg ni e1)) ?_
        refine ⟨_, rfl, t, _, 1, _, rfl, rfl, SqT.of ht', rfl, _, rfl, rfl, _, rfl, ?_⟩
        by_cases e2 : st.air[i].to = q
        · refine if_yes (decide_eq_true (congrArg ni e2)) ?_
          refine ⟨_, rfl, hS i _ ?_ R2 S2⟩
          unfold Ha05.firstOf
          refine List.findIdx?_eq_some_iff_getElem.mpr ⟨li, by simp [e1, e2], fun j hj => ?_⟩
          rw [hno j _ hj (List.getElem?_eq_getElem (by omega))]
          exact Bool.false_ne_true
        · refine if_no (decide_eq_false fun z => e2 (ni_inj z)) ?_
          exact next (by simp [e2])
      · refine if_no (decide_eq_false fun z => e1 (ni_inj z)) ?_
        refine if_no rfl ?_
        exact next (by simp [e1])
    · rintro σ H' ⟨v3, v4, rfl, R1, S1, ha1, hv1, hno⟩
      refine hN H' ?_ R1 S1
      unfold Ha05.firstOf
      refine List.findIdx?_eq_none_iff.mpr fun x hx => ?_
      obtain ⟨j, hj⟩ := List.getElem?_of_mem hx
      exact hno j x (by rw [lv]; exact (List.getElem?_eq_some_iff.mp hj).1) hj
end
end PN
end
section
set_option maxRecDepth 100000
set_option maxHeartbeats 4000000
/-! The calls deliver and turns. -/
namespace PN
open PySem PySem.Spec PyProof.Rows L2
open Ha05 (Proc Fly Sig Link Note flag sigTold proc nodeOf conn wire setProc linkTo notes without withLink)
theorem map_ni_int (l : List Nat) : l.map ni = (Ha05.ints l).map V.int := by
  unfold Ha05.ints
  rw [List.map_map]
  rfl
theorem in_deliver {args : List Nat} {cl : Ha05.Call} (h : Ha05Neutral.callIn [10 :: args] = some cl) : ∃ p q, args = [p, q] ∧ cl = .deliver p q := by
  rcases args with _ | ⟨a, _ | ⟨b, _ | ⟨d, t⟩⟩⟩ <;> simp [Ha05Neutral.callIn] at h
  exact ⟨a, b, rfl, h.symm⟩
theorem in_turns {args : List Nat} {cl : Ha05.Call} (h : Ha05Neutral.callIn [11 :: args] = some cl) : ∃ n, args = [n] ∧ cl = .turns n := by
  rcases args with _ | ⟨a, _ | ⟨b, t⟩⟩ <;> simp [Ha05Neutral.callIn] at h
  exact ⟨a, rfl, h.symm⟩
section
variable {P : Program} {w : World} {K : PySem.W.Frag} {mg : Str → Option Value} {base : Heap} {c : Cs}
theorem cal_deliver (T : Txt K mg c) (D : Dfn K mg "deliver" s_deliver) (m_World_has_process : Met P w K mg base 1 c.w "has_process" (spHas c)) (c_place_of_first : Cal P w K mg base 1 "place_of_first" (spPlace c))
    (c_one_if : Cal P w K mg base 1 "one_if" spOne) (c_arrive : Cal P w K mg base 7 "arrive" (spArrive c)) : Cal P w K mg base 8 "deliver" (spCall c 10) := by
  refine cal_of D sc_deliver (fun _ _ _ _ _ _ us hl => match us, hl with | [_, _, _], _ => rfl) (fun vs H Q E h => ?_) (fun f cdv A outer s H vs Q E hr h => ?_)
  · obtain ⟨L, st, args, cl, rfl, hc, _⟩ := h
    obtain ⟨p, q, rfl, rfl⟩ := in_deliver hc
    rfl
  · obtain ⟨L, st, args, cl, rfl, hc, R, G, hQ⟩ := h
    obtain ⟨p, q, rfl, rfl⟩ := in_deliver hc
    obtain ⟨dx, h1⟩ := R.ins
    have step1 : ¬ (Ok st p ∧ Ok st q) → Ha05.step st (.deliver p q) = (st, [-1]) := fun n => by
      have : Ha05.isThere st p = false ∨ Ha05.isThere st q = false := by
        rw [isThere_no, isThere_no]
        by_cases a : Ok st p
        · exact .inr fun b => n ⟨a, b⟩
        · exact .inl a
      show (if Ha05.isThere st p = false ∨ Ha05.isThere st q = false then (st, [-1]) else _) = _
      rw [if_pos this]
    refine ⟨_, (pss_cons (ps_if (PW.pt (pw_or (pt_not (pt_val (pe_mt m_World_has_process hr (by decide) (pv 0) (pa_cons (pv 1) pa_nil)))) (pw_or1 (pt_not (pt_val (pe_mt m_World_has_process hr (by decide) (pv 0) (pa_cons (pv 2) pa_nil))))))) (pss_one (ps_ret (pe_lst (pa_cons (pe_k T.k_NO_SUCH rfl) pa_nil)))) pss_nil)
    (pss_cons (ps_set (i := 3) sc_deliver.nd rfl (Or.inl rfl) (pe_c c_place_of_first hr (by decide) rfl (pa_cons (pv 0) (pa_cons (pv 1) (pa_cons (pv 2) pa_nil)))))
    (pss_cons (ps_if (pt_cmp (pc_isN (pv 3))) (pss_one (ps_ret (pe_lst (pa_cons (pe_k T.k_NONE_ON_ITS_WAY rfl) pa_nil)))) pss_nil)
    (pss_cons (ps_set (i := 4) sc_deliver.nd rfl (Or.inl rfl) (pe_callTy call_list_of (by rfl) T.m_list (by decide +kernel) (pa_cons (pe_ix ix_tup (pe_ix ix_list (pe_fld (pv 0) rfl) (pv 3) (fun _ _ => rfl)) pe_int (fun _ _ => rfl)) pa_nil)))
    (pss_cons (ps_expr (pe_bm PySem.F.plainAttrs_list PySem.F.slot_list_append PySem.F.type_list_append mt_append (pv 4) (pa_cons (pe_c c_one_if hr (by decide) rfl (pa_cons (pe_c c_arrive hr (by decide) rfl (pa_cons (pv 0) (pa_cons (pv 3) pa_nil))) pa_nil)) pa_nil)))
    (pss_one (ps_ret (pv 4)))))))), ?_⟩
    refine ⟨_, rfl, L.w, dx, _, rfl, h1, wF_m_has_process, _, rfl, L.w, dx, L.pr, _, _, p, rfl, h1, wF_processes, R.pr, _, rfl, ?_⟩
    rw [has_eq R]
    by_cases op : Ok st p
    · rw [isThere_iff.mpr op]
      refine if_no rfl ?_
      refine ⟨_, rfl, L.w, dx, _, rfl, h1, wF_m_has_process, _, rfl, L.w, dx, L.pr, _, _, q, rfl, h1, wF_processes, R.pr, _, rfl, ?_⟩
      rw [has_eq R]
      by_cases oq : Ok st q
      · rw [isThere_iff.mpr oq]
        refine if_no rfl ?_
        have ns : ¬ (Ha05.isThere st p = false ∨ Ha05.isThere st q = false) := by
          rw [isThere_iff.mpr op, isThere_iff.mpr oq]
          simp
        refine ⟨_, rfl, _, rfl, _, rfl, L, st, p, q, rfl, R, fun i H1 ei R1 S1 => ?_, fun H1 ei R1 S1 => ?_⟩
        · refine ⟨_, rfl, _, rfl, if_no rfl ?_⟩
          have li : i < st.air.length := (List.findIdx?_eq_some_iff_getElem.mp ei).1
          have hy : st.air[i]? = some st.air[i] := List.getElem?_eq_getElem li
          have est : Ha05.step st (.deliver p q) = (Ha05.comes { st with air := st.air.eraseIdx i } st.air[i], Ha05.ints (sigTold st.air[i].what ++ [flag (Ha05.counts st st.air[i])])) := by
            show (if Ha05.isThere st p = false ∨ Ha05.isThere st q = false then (st, [-1]) else (match Ha05.firstOf st p q with
              | none => (st, [-5])
              | some i => (Ha05.delivers st p q, Ha05.ints (match st.air[i]? with
                | some y => sigTold y.what ++ [flag (Ha05.counts st y)]
                | none => [])))) = _
            rw [if_neg ns, ei]
            show (Ha05.delivers st p q, Ha05.ints (match st.air[i]? with
                | some y => sigTold y.what ++ [flag (Ha05.counts st y)]
                | none => [])) = _
            unfold Ha05.delivers
            rw [ei]
            show ((match st.air[i]? with
              | none => st
              | some y => Ha05.comes { st with air := st.air.eraseIdx i } y), _) = _
            rw [hy]
          obtain ⟨dx1, h2⟩ := R1.ins
          obtain ⟨vs, ha, hv⟩ := R1.ai
          obtain ⟨v, hvi, t, g, rfl, ht, hg⟩ := paired_get hv hy
          have FO := G.wf.ar _ (List.mem_of_getElem? hy)
          refine ⟨_, rfl, L.w, c.w, dx1, _, _, rfl, h2, T.clW, T.n_air, wF_air, _, rfl, L.ai, vs, _, _, rfl, rfl, SqL.of ha, at_of (j := i) rfl hvi, t, _, 2, _, rfl, rfl, SqT.of ht, rfl, g, _, rfl, .inr (SqT.of hg), fun r hr => ?_⟩
          have nr : r ∉ L.ads := R1.out hr
          refine ⟨_, rfl, .inl ⟨rfl, _, SqL.of upd_same⟩, _, rfl, _, rfl, L, st, i, st.air[i], rfl, R1.new hr, G.wf, hy, G.sz.mono (by decide), G.watch hy FO.to, fun L' H' R' S' => ?_⟩
          refine ⟨_, rfl, ?_⟩
          have hr' := S'.frame r _ upd_same nr
          refine ⟨r, _, _, rfl, rfl, hr', ?_, ?_⟩
          · rw [List.length_map]
            have : (sigTold st.air[i].what).length ≤ 3 := by cases st.air[i].what <;> simp [sigTold]
            exact Nat.lt_of_le_of_lt this (by decide)
          · have S2 := (S1.trans (Step.new (L := L) (o := .lst ((sigTold st.air[i].what).map ni)) hr)).trans S'
            have nr' : r ∉ L'.ads := S'.out upd_same nr
            refine ⟨_, rfl, hQ L' _ r ?_ ?_ (fun b o hb n => ?_) nr' ?_⟩
            · rw [est]
              exact R'.upd nr' fun xs e => by rw [hr'] at e; cases e
            · refine ⟨fun b o hb n => ?_, S2.fresh, S2.w⟩
              have nb : b ≠ r := ne_of_none (S1.frame b o hb n) hr
              exact upd_keep (S2.frame b o hb n) nb
            · exact ne_of_none (S1.frame b o hb n) hr
            · rw [upd_same, est, ← map_ni_int, List.map_append]
              rfl
        · refine ⟨_, rfl, _, rfl, if_yes rfl ?_⟩
          have est : Ha05.step st (.deliver p q) = (st, [-5]) := by
            show (if Ha05.isThere st p = false ∨ Ha05.isThere st q = false then (st, [-1]) else (match Ha05.firstOf st p q with
              | none => (st, [-5])
              | some i => _)) = _
            rw [if_neg ns, ei]
          refine ⟨one_le, fun r hr => ?_⟩
          exact hQ.fin R1 S1.stp hr (by rw [est]) (by rw [est]; rfl)
      · rw [isThere_no.mpr oq]
        refine if_yes rfl ?_
        exact ⟨one_le, fun r hr => hQ.one R hr (step1 fun z => oq z.2) rfl⟩
    · rw [isThere_no.mpr op]
      refine if_yes rfl ?_
      refine if_yes rfl ?_
      exact ⟨one_le, fun r hr => hQ.one R hr (step1 fun z => op z.1) rfl⟩
theorem rounds_cons {s : Ha05.St} {y : Fly} {r : List Fly} {n : Nat} (e : s.air = y :: r) : Ha05.rounds (n + 1) s = ((Ha05.rounds n (Ha05.comes { s with air := r } y)).1, (Ha05.rounds n (Ha05.comes { s with air := r } y)).2 + 1) := by
  show (match s.air with
    | [] => (s, 0)
    | y :: r => Ha05.oneMore (Ha05.rounds n (Ha05.comes { s with air := r } y))) = _
  rw [e]
  rfl
theorem rounds_nil {s : Ha05.St} {n : Nat} (e : s.air = []) : Ha05.rounds n s = (s, 0) := by
  cases n with
  | zero => rfl
  | succ n =>
    show (match s.air with
      | [] => (s, 0)
      | y :: r => Ha05.oneMore (Ha05.rounds n (Ha05.comes { s with air := r } y))) = _
    rw [e]
theorem cal_turns (T : Txt K mg c) (D : Dfn K mg "turns" s_turns) (c_arrive : Cal P w K mg base 7 "arrive" (spArrive c)) : Cal P w K mg base 8 "turns" (spCall c 11) := by
  refine cal_of D sc_turns (fun _ _ _ _ _ _ us hl => match us, hl with | [_, _], _ => rfl) (fun vs H Q E h => ?_) (fun f cdv A outer s H vs Q E hr h => ?_)
  · obtain ⟨L, st, args, cl, rfl, hc, _⟩ := h
    obtain ⟨n, rfl, rfl⟩ := in_turns hc
    rfl
  · obtain ⟨L, st, args, cl, rfl, hc, R, G, hQ⟩ := h
    obtain ⟨n, rfl, rfl⟩ := in_turns hc
    refine ⟨_, (pss_cons (ps_if (pt_cmpR op_gt (pv 1) (pe_k T.k_MOST_TURNS rfl) (nomark _)) (pss_one (ps_ret (pe_lst (pa_cons (pe_k T.k_NO_SUCH rfl) pa_nil)))) pss_nil)
    (pss_cons (ps_set (i := 2) sc_turns.nd rfl (Or.inl rfl) pe_int)
    (pss_cons (ps_while PassesOwn.never (PW.pt (pw_and (pt_cmpR op_lt (pv 2) (pv 1) (nomark _)) (pw_and1 (pt_cmpR op_gt (pe_callB call_len_seq (by rfl) T.m_len PySem.boot_len (pa_cons (pe_fld (pv 0) rfl) pa_nil)) pe_int (nomark _)))))
    (pss_cons (ps_expr (pe_c c_arrive hr (by decide) rfl (pa_cons (pv 0) (pa_cons pe_int pa_nil))))
    (pss_one (ps_aug (i := 2) sc_turns.nd rfl (Or.inl rfl) pe_int ip_add))))
    (pss_one (ps_ret (pe_lst (pa_cons (pv 2) pa_nil))))))), ?_⟩
    refine ⟨_, rfl, _, _, rfl, rfl, _, rfl, ?_⟩
    by_cases hn : 1000 < n
    · refine if_yes (decide_eq_true (by show (1000 : Int) < (n : Int); omega)) ?_
      refine ⟨one_le, fun r hr => hQ.one R hr (z := [-1]) ?_ rfl⟩
      show (if 1000 < n then (st, [-1]) else _) = _
      rw [if_pos hn]
    · refine if_no (decide_eq_false (by show ¬ (1000 : Int) < (n : Int); omega)) ?_
      have est : Ha05.step st (.turns n) = ((Ha05.rounds n st).1, Ha05.ints [(Ha05.rounds n st).2]) := by
        show (if 1000 < n then (st, [-1]) else _) = _
        rw [if_neg hn]
      refine ⟨fun m σ H' => ∃ (k : Nat) (L' : Lay) (t : Ha05.St), m = n - k ∧ k ≤ n ∧ σ = [some (.ref L.w), some (ni n), some (ni k)] ∧ WRep c H' L' t ∧ Good 1000 t ∧ Stp H L H' L' ∧
        Ha05.rounds n st = ((Ha05.rounds (n - k) t).1, (Ha05.rounds (n - k) t).2 + k), ⟨n, 0, L, st, rfl, Nat.zero_le _, rfl, R, G, Stp.refl H L, rfl⟩, ?_⟩
      rintro m σ H1 ⟨k, L1, t, rfl, hk, rfl, R1, G1, S1, er⟩
      rw [← S1.w]
      obtain ⟨dx1, h2⟩ := R1.ins
      obtain ⟨vs, ha, hv⟩ := R1.ai
      have lv : vs.length = t.air.length := (Paired.length hv).symm
      have fin : (n - k = 0 ∨ t.air = []) → ∀ r, H1 r = none → Q (.ref r) (upd H1 r (.lst [ni k])) := fun hh r hr => by
        have e0 : Ha05.rounds (n - k) t = (t, 0) := by
          rcases hh with z | z
          · rw [z]; rfl
          · exact rounds_nil z
        rw [e0] at er
        refine hQ.fin R1 S1 hr (by rw [est, er]) ?_
        rw [est, er]
        show [ni k] = [V.int ((0 + k : Nat) : Int)]
        rw [Nat.zero_add]
        rfl
      refine ⟨_, rfl, _, rfl, _, _, rfl, rfl, _, rfl, ?_⟩
      by_cases lt : k < n
      · refine if_yes (decide_eq_true (by omega)) ?_
        refine ⟨_, rfl, L1.w, c.w, dx1, _, _, rfl, h2, T.clW, T.n_air, wF_air, L1.ai, vs, rfl, .inl (SqL.of ha), _, _, rfl, rfl, _, rfl, ?_⟩
        cases ea : t.air with
        | nil =>
          have l0 : vs.length = 0 := by rw [lv, ea]; rfl
          refine if_no (decide_eq_false (by rw [l0]; decide)) ?_
          exact ⟨_, rfl, (by show 1 ≤ sizeLine; decide), fun r hr => fin (.inr ea) r hr⟩
        | cons y rest =>
          have l1 : vs.length = rest.length + 1 := by rw [lv, ea]; rfl
          refine if_yes (decide_eq_true (by rw [l1]; omega)) ?_
          have hy : t.air[0]? = some y := by rw [ea]; rfl
          have FO := G1.wf.ar _ (List.mem_of_getElem? hy)
          refine ⟨_, fun σ' H' z => z, ?_⟩
          refine ⟨_, rfl, L1, t, 0, y, rfl, R1, G1.wf, hy, G1.sz.mono (by decide), G1.watch hy FO.to, fun L' H' R' S' => ?_⟩
          have G2 := good_comes G1 hy
          refine ⟨_, rfl, _, _, rfl, rfl, ?_⟩
          refine ⟨n - (k + 1), by omega, k + 1, L', _, rfl, by omega, ?_, R', G2, S1.trans S'.stp, ?_⟩
          · show [some (V.ref L1.w), some (ni n), some (V.int ((k : Int) + 1))] = _
            rw [S1.w]
            rfl
          · have e1 : n - k = (n - (k + 1)) + 1 := by omega
            have e2 : t.air.eraseIdx 0 = rest := by rw [ea]; rfl
            rw [er, e1, rounds_cons ea, e2]
            show (_, _ + 1 + k) = (_, _ + (k + 1))
            rw [Nat.add_assoc, Nat.add_comm 1 k]
      · refine if_no (decide_eq_false (by omega)) ?_
        refine if_no rfl ?_
        exact ⟨_, rfl, (by show 1 ≤ sizeLine; decide), fun r hr => fin (.inl (by omega)) r hr⟩
end
end PN
end
section
set_option maxRecDepth 100000
set_option maxHeartbeats 4000000
/-! The refusals, and the calls that only send or end. -/
namespace PN
open PySem PySem.Spec PyProof.Rows L2
open Ha05 (Proc Fly Sig Link Note flag sigTold proc nodeOf conn wire setProc linkTo notes without withLink)
def pref (s : Ha05.St) (p : Nat) : Int := if Ha05.isThere s p = true then (if (proc s p).lives = true then 0 else -8) else -1
def room (s : Ha05.St) : Int := if 12 ≤ s.procs.length then -6 else 0
def airr (s : Ha05.St) : Int := if 200 ≤ s.air.length then -6 else 0
def sref (s : Ha05.St) (p q : Nat) : Int := if Ha05.isThere s q = true then (if pref s p ≠ 0 then pref s p else airr s) else -1
def jref (s : Ha05.St) (p q : Nat) : Int := if p = q then -1 else sref s p q
def cref (s : Ha05.St) (p how : Nat) : Int := if 2 < how then -1 else if pref s p ≠ 0 then pref s p else room s
def wref (a b : Nat) : Int := if Ha05.isPair a b = true then 0 else -1
theorem pref_cases (s : Ha05.St) (p : Nat) : (¬ Ok s p ∧ pref s p = -1) ∨ (Ok s p ∧ Ha05.lives s p = false ∧ pref s p = -8) ∨ (Ok s p ∧ Ha05.lives s p = true ∧ (proc s p).lives = true ∧ pref s p = 0) := by
  unfold pref Ha05.lives
  by_cases h : Ok s p
  · rw [isThere_iff.mpr h]
    cases e : (proc s p).lives
    · exact .inr (.inl ⟨h, rfl, rfl⟩)
    · exact .inr (.inr ⟨h, rfl, rfl, rfl⟩)
  · rw [isThere_no.mpr h]
    exact .inl ⟨h, rfl⟩
theorem airr_cases (s : Ha05.St) : (200 ≤ s.air.length ∧ airr s = -6) ∨ (s.air.length < 200 ∧ airr s = 0) := by
  unfold airr
  by_cases h : 200 ≤ s.air.length
  · exact .inl ⟨h, if_pos h⟩
  · exact .inr ⟨by omega, if_neg h⟩
theorem room_cases (s : Ha05.St) : (12 ≤ s.procs.length ∧ room s = -6) ∨ (s.procs.length < 12 ∧ room s = 0) := by
  unfold room
  by_cases h : 12 ≤ s.procs.length
  · exact .inl ⟨h, if_pos h⟩
  · exact .inr ⟨by omega, if_neg h⟩
/-- a call that sends from p to q -/
theorem sref_step {s : Ha05.St} {p q : Nat} {X : Ha05.St × List Int} {B : Prop} [Decidable B] (hB : ¬ B) : (sref s p q = 0 ∧ Ok s p ∧ Ok s q ∧ (proc s p).lives = true ∧ s.air.length < 200 ∧
      (if Ha05.isThere s p = false ∨ Ha05.isThere s q = false ∨ B then (s, [-1]) else if Ha05.lives s p = false then (s, [-8]) else if Ha05.AIR ≤ s.air.length then (s, [-6]) else X) = X) ∨
    (sref s p q ≠ 0 ∧ (if Ha05.isThere s p = false ∨ Ha05.isThere s q = false ∨ B then (s, [-1]) else if Ha05.lives s p = false then (s, [-8]) else if Ha05.AIR ≤ s.air.length then (s, [-6]) else X) = (s, [sref s p q])) := by
  unfold sref
  by_cases oq : Ok s q
  · rw [if_pos (isThere_iff.mpr oq)]
    have iq := isThere_iff.mpr oq
    rcases pref_cases s p with ⟨h1, h2⟩ | ⟨h1, h2, h3⟩ | ⟨h1, h2, h3, h4⟩
    · rw [h2, if_pos (show (-1 : Int) ≠ 0 by decide)]
      refine .inr ⟨by decide, ?_⟩
      rw [if_pos (.inl (isThere_no.mpr h1))]
    · rw [h3, if_pos (show (-8 : Int) ≠ 0 by decide)]
      refine .inr ⟨by decide, ?_⟩
      rw [if_neg (by rw [isThere_iff.mpr h1, iq]; simp [hB]), if_pos h2]
    · rw [h4]
      have e1 : ¬ (Ha05.isThere s p = false ∨ Ha05.isThere s q = false ∨ B) := by rw [isThere_iff.mpr h1, iq]; simp [hB]
      have e2 : ¬ Ha05.lives s p = false := by rw [h2]; simp
      rw [if_neg e1, if_neg e2]
      rcases airr_cases s with ⟨a, b⟩ | ⟨a, b⟩
      · rw [b, if_pos (show Ha05.AIR ≤ s.air.length from a)]
        exact .inr ⟨by decide, rfl⟩
      · rw [b, if_neg (show ¬ Ha05.AIR ≤ s.air.length from by show ¬ 200 ≤ s.air.length; omega)]
        exact .inl ⟨by decide, h1, oq, h3, a, rfl⟩
  · have iq := isThere_no.mpr oq
    rw [if_neg (by rw [iq]; exact Bool.false_ne_true)]
    refine .inr ⟨by decide, ?_⟩
    rw [if_pos (.inr (.inl iq))]
theorem jref_step {s : Ha05.St} {p q : Nat} {X : Ha05.St × List Int} : (jref s p q = 0 ∧ p ≠ q ∧ Ok s p ∧ Ok s q ∧ (proc s p).lives = true ∧ s.air.length < 200 ∧
      (if Ha05.isThere s p = false ∨ Ha05.isThere s q = false ∨ p = q then (s, [-1]) else if Ha05.lives s p = false then (s, [-8]) else if Ha05.AIR ≤ s.air.length then (s, [-6]) else X) = X) ∨
    (jref s p q ≠ 0 ∧ (if Ha05.isThere s p = false ∨ Ha05.isThere s q = false ∨ p = q then (s, [-1]) else if Ha05.lives s p = false then (s, [-8]) else if Ha05.AIR ≤ s.air.length then (s, [-6]) else X) = (s, [jref s p q])) := by
  unfold jref
  by_cases e : p = q
  · rw [if_pos e, if_pos (.inr (.inr e))]
    exact .inr ⟨by decide, rfl⟩
  · rw [if_neg e]
    rcases sref_step (s := s) (p := p) (q := q) (X := X) (B := p = q) e with ⟨a, b, d, f, g, h⟩ | ⟨a, b⟩
    · exact .inl ⟨a, e, b, d, f, g, h⟩
    · exact .inr ⟨a, b⟩
section
variable {P : Program} {w : World} {K : PySem.W.Frag} {mg : Str → Option Value} {base : Heap} {c : Cs}
def spNode : Sp := fun vs H Q _ => ∃ n : Nat, vs = [ni n] ∧ Q (.bl (decide (1 ≤ n ∧ n ≤ 3))) H
theorem cal_node (T : Txt K mg c) (D : Dfn K mg "is_node" s_is_node) : Cal P w K mg base 1 "is_node" spNode := by
  refine cal_of D sc_is_node (fun _ _ _ _ _ _ us hl => match us, hl with | [_], _ => rfl) (fun vs H Q E h => ?_) (fun f cdv A outer s H vs Q E hr h => ?_)
  · obtain ⟨_, rfl, _⟩ := h; rfl
  · obtain ⟨n, rfl, hQ⟩ := h
    refine ⟨_, (pss_one (ps_ret (pe_chain op_le op_le pe_int (pv 0) (pe_k T.k_NODES rfl)))), ?_⟩
    refine ⟨_, rfl, _, _, rfl, rfl, _, rfl, ?_⟩
    by_cases l1 : 1 ≤ n
    · refine if_yes (decide_eq_true (by omega)) ?_
      refine ⟨_, _, rfl, rfl, ?_⟩
      have e : decide ((n : Int) ≤ 3) = decide (1 ≤ n ∧ n ≤ 3) := by
        by_cases l2 : n ≤ 3
        · rw [decide_eq_true (by omega), decide_eq_true ⟨l1, l2⟩]
        · rw [decide_eq_false (by omega), decide_eq_false fun z => l2 z.2]
      show Q (.bl (decide ((n : Int) ≤ 3))) H
      rw [e]
      exact hQ
    · refine if_no (decide_eq_false (by omega)) ?_
      rw [decide_eq_false fun z => l1 z.1] at hQ
      exact hQ
def spPref (c : Cs) : Sp := fun vs H Q _ => ∃ (L : Lay) (s : Ha05.St) (p : Nat), vs = [.ref L.w, ni p] ∧ WRep c H L s ∧ Q (.int (pref s p)) H
theorem cal_pref (T : Txt K mg c) (D : Dfn K mg "process_refusal" s_process_refusal) (m_World_has_process : Met P w K mg base 1 c.w "has_process" (spHas c)) (m_World_process : Met P w K mg base 1 c.w "process" (spProc c)) :
    Cal P w K mg base 2 "process_refusal" (spPref c) := by
  refine cal_of D sc_process_refusal (fun _ _ _ _ _ _ us hl => match us, hl with | [_, _], _ => rfl) (fun vs H Q E h => ?_) (fun f cdv A outer s H vs Q E hr h => ?_)
  · obtain ⟨_, _, _, rfl, _⟩ := h; rfl
  · obtain ⟨L, st, p, rfl, R, hQ⟩ := h
    obtain ⟨dx, h1⟩ := R.ins
    refine ⟨_, (pss_cons (ps_if (pt_not (pt_val (pe_mt m_World_has_process hr (by decide) (pv 0) (pa_cons (pv 1) pa_nil)))) (pss_one (ps_ret (pe_k T.k_NO_SUCH rfl))) pss_nil)
    (pss_cons (ps_if (pt_not (pt_val (pe_fld (pe_mt m_World_process hr (by decide) (pv 0) (pa_cons (pv 1) pa_nil)) rfl))) (pss_one (ps_ret (pe_k T.k_HAS_ENDED rfl))) pss_nil)
    (pss_one (ps_ret (pe_k T.k_FITS rfl))))), ?_⟩
    refine ⟨_, rfl, L.w, dx, _, rfl, h1, wF_m_has_process, _, rfl, L.w, dx, L.pr, _, _, p, rfl, h1, wF_processes, R.pr, _, rfl, ?_⟩
    rw [has_eq R]
    unfold pref at hQ
    by_cases op : Ok st p
    · rw [isThere_iff.mpr op] at hQ ⊢
      refine if_no rfl ?_
      rw [if_pos rfl] at hQ
      obtain ⟨l, hl, Pr⟩ := R.prc op
      obtain ⟨ex, hi⟩ := Pr.ins
      refine ⟨_, rfl, L.w, dx, _, rfl, h1, wF_m_process, _, rfl, L.w, dx, L.pr, _, _, p, _, rfl, h1, wF_processes, R.pr, op.1, ps_get hl, ?_⟩
      refine ⟨l.a, c.p, ex, _, _, rfl, hi, T.clP, T.n_lives, pF_lives, _, rfl, ?_⟩
      cases e : (proc st p).lives with
      | true =>
        rw [e] at hQ
        exact if_no rfl hQ
      | false =>
        rw [e] at hQ
        exact if_yes rfl hQ
    · rw [isThere_no.mpr op] at hQ ⊢
      exact if_yes rfl hQ
def spRoom (c : Cs) : Sp := fun vs H Q _ => ∃ (L : Lay) (s : Ha05.St), vs = [.ref L.w] ∧ WRep c H L s ∧ Q (.int (room s)) H
theorem cal_room (T : Txt K mg c) (D : Dfn K mg "room_refusal" s_room_refusal) : Cal P w K mg base 1 "room_refusal" (spRoom c) := by
  refine cal_of D sc_room_refusal (fun _ _ _ _ _ _ us hl => match us, hl with | [_], _ => rfl) (fun vs H Q E h => ?_) (fun f cdv A outer s H vs Q E hr h => ?_)
  · obtain ⟨_, _, rfl, _⟩ := h; rfl
  · obtain ⟨L, st, rfl, R, hQ⟩ := h
    obtain ⟨dx, h1⟩ := R.ins
    refine ⟨_, (pss_cons (ps_if (pt_cmpR op_ge (pe_callB call_len_seq (by rfl) T.m_len PySem.boot_len (pa_cons (pe_fld (pv 0) rfl) pa_nil)) (pe_k T.k_MOST_PROCESSES rfl) (nomark _)) (pss_one (ps_ret (pe_k T.k_TOO_MANY rfl))) pss_nil)
    (pss_one (ps_ret (pe_k T.k_FITS rfl)))), ?_⟩
    refine ⟨_, rfl, L.w, c.w, dx, _, _, rfl, h1, T.clW, T.n_processes, wF_processes, L.pr, _, rfl, .inl (SqL.of R.pr), _, _, rfl, rfl, _, rfl, ?_⟩
    have el : (L.ps.map fun l => V.ref l.a).length = st.procs.length := by rw [List.length_map, R.len]
    rcases room_cases st with ⟨a, b⟩ | ⟨a, b⟩
    · rw [b] at hQ
      exact if_yes (decide_eq_true (by rw [el]; omega)) hQ
    · rw [b] at hQ
      exact if_no (decide_eq_false (by rw [el]; omega)) hQ
def spAirr (c : Cs) : Sp := fun vs H Q _ => ∃ (L : Lay) (s : Ha05.St), vs = [.ref L.w] ∧ WRep c H L s ∧ Q (.int (airr s)) H
theorem cal_airr (T : Txt K mg c) (D : Dfn K mg "air_refusal" s_air_refusal) : Cal P w K mg base 1 "air_refusal" (spAirr c) := by
  refine cal_of D sc_air_refusal (fun _ _ _ _ _ _ us hl => match us, hl with | [_], _ => rfl) (fun vs H Q E h => ?_) (fun f cdv A outer s H vs Q E hr h => ?_)
  · obtain ⟨_, _, rfl, _⟩ := h; rfl
  · obtain ⟨L, st, rfl, R, hQ⟩ := h
    obtain ⟨dx, h1⟩ := R.ins
    obtain ⟨vs, ha, hv⟩ := R.ai
    have lv : vs.length = st.air.length := (Paired.length hv).symm
    refine ⟨_, (pss_cons (ps_if (pt_cmpR op_ge (pe_callB call_len_seq (by rfl) T.m_len PySem.boot_len (pa_cons (pe_fld (pv 0) rfl) pa_nil)) (pe_k T.k_MOST_SIGNALS rfl) (nomark _)) (pss_one (ps_ret (pe_k T.k_TOO_MANY rfl))) pss_nil)
    (pss_one (ps_ret (pe_k T.k_FITS rfl)))), ?_⟩
    refine ⟨_, rfl, L.w, c.w, dx, _, _, rfl, h1, T.clW, T.n_air, wF_air, L.ai, _, rfl, .inl (SqL.of ha), _, _, rfl, rfl, _, rfl, ?_⟩
    rcases airr_cases st with ⟨a, b⟩ | ⟨a, b⟩
    · rw [b] at hQ
      exact if_yes (decide_eq_true (by rw [lv]; omega)) hQ
    · rw [b] at hQ
      exact if_no (decide_eq_false (by rw [lv]; omega)) hQ
theorem ne_int {z : Int} (h : z ≠ 0) : (!decide (V.int z = V.int 0)) = true := by
  rw [decide_eq_false fun e => h (by injection e)]
  rfl
theorem eq_int {z : Int} (h : z = 0) : (!decide (V.int z = V.int 0)) = false := by rw [h]; rfl
def spSref (c : Cs) : Sp := fun vs H Q _ => ∃ (L : Lay) (s : Ha05.St) (p q : Nat), vs = [.ref L.w, ni p, ni q] ∧ WRep c H L s ∧ Q (.int (sref s p q)) H
theorem cal_sref (T : Txt K mg c) (D : Dfn K mg "sending_refusal" s_sending_refusal) (m_World_has_process : Met P w K mg base 1 c.w "has_process" (spHas c)) (c_process_refusal : Cal P w K mg base 2 "process_refusal" (spPref c))
    (c_air_refusal : Cal P w K mg base 1 "air_refusal" (spAirr c)) : Cal P w K mg base 3 "sending_refusal" (spSref c) := by
  refine cal_of D sc_sending_refusal (fun _ _ _ _ _ _ us hl => match us, hl with | [_, _, _], _ => rfl) (fun vs H Q E h => ?_) (fun f cdv A outer s H vs Q E hr h => ?_)
  · obtain ⟨_, _, _, _, rfl, _⟩ := h; rfl
  · obtain ⟨L, st, p, q, rfl, R, hQ⟩ := h
    obtain ⟨dx, h1⟩ := R.ins
    refine ⟨_, (pss_cons (ps_if (pt_not (pt_val (pe_mt m_World_has_process hr (by decide) (pv 0) (pa_cons (pv 2) pa_nil)))) (pss_one (ps_ret (pe_k T.k_NO_SUCH rfl))) pss_nil)
    (pss_cons (ps_set (i := 3) sc_sending_refusal.nd rfl (Or.inl rfl) (pe_c c_process_refusal hr (by decide) rfl (pa_cons (pv 0) (pa_cons (pv 1) pa_nil))))
    (pss_cons (ps_if (pt_cmpR op_ne (pv 3) (pe_k T.k_FITS rfl) (nomark _)) (pss_one (ps_ret (pv 3))) pss_nil)
    (pss_one (ps_ret (pe_c c_air_refusal hr (by decide) rfl (pa_cons (pv 0) pa_nil))))))), ?_⟩
    refine ⟨_, rfl, L.w, dx, _, rfl, h1, wF_m_has_process, _, rfl, L.w, dx, L.pr, _, _, q, rfl, h1, wF_processes, R.pr, _, rfl, ?_⟩
    rw [has_eq R]
    unfold sref at hQ
    by_cases oq : Ok st q
    · rw [isThere_iff.mpr oq] at hQ ⊢
      refine if_no rfl ?_
      rw [if_pos rfl] at hQ
      refine ⟨_, rfl, _, rfl, L, st, p, rfl, R, ?_⟩
      refine ⟨_, rfl, rfl, _, rfl, ?_⟩
      by_cases e : pref st p = 0
      · rw [if_neg (by simp [e])] at hQ
        refine if_no (eq_int e) ?_
        exact ⟨_, rfl, L, st, rfl, R, hQ⟩
      · rw [if_pos e] at hQ
        refine if_yes (ne_int e) ?_
        exact ⟨_, rfl, hQ⟩
    · rw [isThere_no.mpr oq] at hQ ⊢
      exact if_yes rfl hQ
def spJref (c : Cs) : Sp := fun vs H Q _ => ∃ (L : Lay) (s : Ha05.St) (p q : Nat), vs = [.ref L.w, ni p, ni q] ∧ WRep c H L s ∧ Q (.int (jref s p q)) H
theorem cal_jref (T : Txt K mg c) (D : Dfn K mg "joining_refusal" s_joining_refusal) (c_sending_refusal : Cal P w K mg base 3 "sending_refusal" (spSref c)) : Cal P w K mg base 4 "joining_refusal" (spJref c) := by
  refine cal_of D sc_joining_refusal (fun _ _ _ _ _ _ us hl => match us, hl with | [_, _, _], _ => rfl) (fun vs H Q E h => ?_) (fun f cdv A outer s H vs Q E hr h => ?_)
  · obtain ⟨_, _, _, _, rfl, _⟩ := h; rfl
  · obtain ⟨L, st, p, q, rfl, R, hQ⟩ := h
    refine ⟨_, (pss_cons (ps_if (pt_cmpR op_eq (pv 1) (pv 2) (nomark _)) (pss_one (ps_ret (pe_k T.k_NO_SUCH rfl))) pss_nil)
    (pss_one (ps_ret (pe_c c_sending_refusal hr (by decide) rfl (pa_cons (pv 0) (pa_cons (pv 1) (pa_cons (pv 2) pa_nil))))))), ?_⟩
    refine ⟨_, rfl, _, rfl, rfl, _, rfl, ?_⟩
    unfold jref at hQ
    by_cases e : p = q
    · rw [if_pos e] at hQ
      exact if_yes (decide_eq_true (congrArg ni e)) hQ
    · rw [if_neg e] at hQ
      refine if_no (decide_eq_false fun z => e (ni_inj z)) ?_
      exact ⟨_, rfl, _, rfl, _, rfl, L, st, p, q, rfl, R, hQ⟩
def spCref (c : Cs) : Sp := fun vs H Q _ => ∃ (L : Lay) (s : Ha05.St) (p how : Nat), vs = [.ref L.w, ni p, ni how] ∧ WRep c H L s ∧ Q (.int (cref s p how)) H
theorem cal_cref (T : Txt K mg c) (D : Dfn K mg "child_refusal" s_child_refusal) (c_process_refusal : Cal P w K mg base 2 "process_refusal" (spPref c)) (c_room_refusal : Cal P w K mg base 1 "room_refusal" (spRoom c)) :
    Cal P w K mg base 3 "child_refusal" (spCref c) := by
  refine cal_of D sc_child_refusal (fun _ _ _ _ _ _ us hl => match us, hl with | [_, _, _], _ => rfl) (fun vs H Q E h => ?_) (fun f cdv A outer s H vs Q E hr h => ?_)
  · obtain ⟨_, _, _, _, rfl, _⟩ := h; rfl
  · obtain ⟨L, st, p, how, rfl, R, hQ⟩ := h
    refine ⟨_, (pss_cons (ps_if (pt_cmpR op_gt (pv 2) (pe_k T.k_WATCHED rfl) (nomark _)) (pss_one (ps_ret (pe_k T.k_NO_SUCH rfl))) pss_nil)
    (pss_cons (ps_set (i := 3) sc_child_refusal.nd rfl (Or.inl rfl) (pe_c c_process_refusal hr (by decide) rfl (pa_cons (pv 0) (pa_cons (pv 1) pa_nil))))
    (pss_cons (ps_if (pt_cmpR op_ne (pv 3) (pe_k T.k_FITS rfl) (nomark _)) (pss_one (ps_ret (pv 3))) pss_nil)
    (pss_one (ps_ret (pe_c c_room_refusal hr (by decide) rfl (pa_cons (pv 0) pa_nil))))))), ?_⟩
    refine ⟨_, rfl, _, _, rfl, rfl, _, rfl, ?_⟩
    unfold cref at hQ
    by_cases e0 : 2 < how
    · rw [if_pos e0] at hQ
      exact if_yes (decide_eq_true (by omega)) hQ
    · rw [if_neg e0] at hQ
      refine if_no (decide_eq_false (by omega)) ?_
      refine ⟨_, rfl, _, rfl, L, st, p, rfl, R, ?_⟩
      refine ⟨_, rfl, rfl, _, rfl, ?_⟩
      by_cases e : pref st p = 0
      · rw [if_neg (by simp [e])] at hQ
        refine if_no (eq_int e) ?_
        exact ⟨_, rfl, L, st, rfl, R, hQ⟩
      · rw [if_pos e] at hQ
        refine if_yes (ne_int e) ?_
        exact ⟨_, rfl, hQ⟩
def spWref : Sp := fun vs H Q _ => ∃ (a b : Nat), vs = [ni a, ni b] ∧ Q (.int (wref a b)) H
theorem cal_wref (T : Txt K mg c) (D : Dfn K mg "wire_refusal" s_wire_refusal) (c_is_node : Cal P w K mg base 1 "is_node" spNode) : Cal P w K mg base 2 "wire_refusal" spWref := by
  refine cal_of D sc_wire_refusal (fun _ _ _ _ _ _ us hl => match us, hl with | [_, _], _ => rfl) (fun vs H Q E h => ?_) (fun f cdv A outer s H vs Q E hr h => ?_)
  · obtain ⟨_, _, rfl, _⟩ := h; rfl
  · obtain ⟨a, b, rfl, hQ⟩ := h
    have yes : a ≠ b → (1 ≤ a ∧ a ≤ 3) → (1 ≤ b ∧ b ≤ 3) → Q (.int 0) H := fun h1 h2 h3 => by
      have : Ha05.isPair a b = true := by unfold Ha05.isPair; simp [h1, h2.1, h2.2, h3.1, h3.2]
      unfold wref at hQ
      rw [if_pos this] at hQ
      exact hQ
    have no : ¬ (a ≠ b ∧ (1 ≤ a ∧ a ≤ 3) ∧ (1 ≤ b ∧ b ≤ 3)) → Q (.int (-1)) H := fun h1 => by
      have : ¬ Ha05.isPair a b = true := fun z => h1 (by
        unfold Ha05.isPair at z
        simp at z
        exact ⟨z.2.2.2.2, ⟨z.1, z.2.1⟩, z.2.2.1, z.2.2.2.1⟩)
      unfold wref at hQ
      rw [if_neg this] at hQ
      exact hQ
    refine ⟨_, (pss_cons (ps_if (PW.pt (pw_or (pt_cmpR op_eq (pv 0) (pv 1) (nomark _)) (pw_or (pt_not (pt_val (pe_c c_is_node hr (by decide) rfl (pa_cons (pv 0) pa_nil)))) (pw_or1 (pt_not (pt_val (pe_c c_is_node hr (by decide) rfl (pa_cons (pv 1) pa_nil)))))))) (pss_one (ps_ret (pe_k T.k_NO_SUCH rfl))) pss_nil)
    (pss_one (ps_ret (pe_k T.k_FITS rfl)))), ?_⟩
    refine ⟨_, rfl, _, rfl, rfl, _, rfl, ?_⟩
    by_cases e : a = b
    · refine if_yes (decide_eq_true (congrArg ni e)) ?_
      exact if_yes rfl (no fun z => z.1 e)
    · refine if_no (decide_eq_false fun z => e (ni_inj z)) ?_
      refine ⟨_, rfl, a, rfl, _, rfl, ?_⟩
      by_cases ha : 1 ≤ a ∧ a ≤ 3
      · rw [decide_eq_true ha]
        refine if_no rfl ?_
        refine ⟨_, rfl, b, rfl, _, rfl, ?_⟩
        by_cases hb : 1 ≤ b ∧ b ≤ 3
        · rw [decide_eq_true hb]
          exact if_no rfl (yes e ha hb)
        · rw [decide_eq_false hb]
          exact if_yes rfl (no fun z => hb z.2.2)
      · rw [decide_eq_false ha]
        refine if_yes rfl ?_
        exact if_yes rfl (no fun z => ha z.2.1)
end
end PN
end
section
set_option maxRecDepth 100000
set_option maxHeartbeats 4000000
/-! The calls start to say. -/
namespace PN
open PySem PySem.Spec PyProof.Rows L2
open Ha05 (Proc Fly Sig Link Note flag sigTold proc nodeOf conn wire setProc linkTo notes without withLink)
theorem in1 {j : Nat} {args : List Nat} {cl : Ha05.Call} {f : Nat → Ha05.Call} (h : Ha05Neutral.callIn [j :: args] = some cl) (h0 : Ha05Neutral.callIn [[j]] = none) (h1 : ∀ a, Ha05Neutral.callIn [[j, a]] = some (f a)) (h2 : ∀ a b t, Ha05Neutral.callIn [j :: a :: b :: t] = none) : ∃ a, args = [a] ∧ cl = f a := by
  rcases args with _ | ⟨a, _ | ⟨b, t⟩⟩
  · rw [h0] at h; cases h
  · rw [h1] at h; exact ⟨a, rfl, (Option.some.inj h).symm⟩
  · rw [h2] at h; cases h
theorem in2 {j : Nat} {args : List Nat} {cl : Ha05.Call} {f : Nat → Nat → Ha05.Call} (h : Ha05Neutral.callIn [j :: args] = some cl) (h0 : Ha05Neutral.callIn [[j]] = none) (h1 : ∀ a, Ha05Neutral.callIn [[j, a]] = none) (h2 : ∀ a b, Ha05Neutral.callIn [[j, a, b]] = some (f a b)) (h3 : ∀ a b d t, Ha05Neutral.callIn [j :: a :: b :: d :: t] = none) : ∃ a b, args = [a, b] ∧ cl = f a b := by
  rcases args with _ | ⟨a, _ | ⟨b, _ | ⟨d, t⟩⟩⟩
  · rw [h0] at h; cases h
  · rw [h1] at h; cases h
  · rw [h2] at h; exact ⟨a, b, rfl, (Option.some.inj h).symm⟩
  · rw [h3] at h; cases h
theorem in3 {j : Nat} {args : List Nat} {cl : Ha05.Call} {f : Nat → Nat → Nat → Ha05.Call} (h : Ha05Neutral.callIn [j :: args] = some cl) (h0 : Ha05Neutral.callIn [[j]] = none) (h1 : ∀ a, Ha05Neutral.callIn [[j, a]] = none) (h2 : ∀ a b, Ha05Neutral.callIn [[j, a, b]] = none) (h3 : ∀ a b d, Ha05Neutral.callIn [[j, a, b, d]] = some (f a b d)) (h4 : ∀ a b d e t, Ha05Neutral.callIn [j :: a :: b :: d :: e :: t] = none) : ∃ a b d, args = [a, b, d] ∧ cl = f a b d := by
  rcases args with _ | ⟨a, _ | ⟨b, _ | ⟨d, _ | ⟨e, t⟩⟩⟩⟩
  · rw [h0] at h; cases h
  · rw [h1] at h; cases h
  · rw [h2] at h; cases h
  · rw [h3] at h; exact ⟨a, b, d, rfl, (Option.some.inj h).symm⟩
  · rw [h4] at h; cases h
section
variable {P : Program} {w : World} {K : PySem.W.Frag} {mg : Str → Option Value} {base : Heap} {c : Cs}
theorem cal_start (T : Txt K mg c) (D : Dfn K mg "start" s_start) (c_is_node : Cal P w K mg base 1 "is_node" spNode) (c_room_refusal : Cal P w K mg base 1 "room_refusal" (spRoom c))
    (m_World_new_process : Met P w K mg base 3 c.w "new_process" (spNewP c)) : Cal P w K mg base 4 "start" (spCall c 0) := by
  refine cal_of D sc_start (fun _ _ _ _ _ _ us hl => match us, hl with | [_, _], _ => rfl) (fun vs H Q E h => ?_) (fun f cdv A outer s H vs Q E hr h => ?_)
  · obtain ⟨L, st, args, cl, rfl, hc, _⟩ := h
    obtain ⟨n, rfl, rfl⟩ := in1 (f := .start) hc rfl (fun _ => rfl) (fun _ _ _ => rfl)
    rfl
  · obtain ⟨L, st, args, cl, rfl, hc, R, G, hQ⟩ := h
    obtain ⟨n, rfl, rfl⟩ := in1 (f := .start) hc rfl (fun _ => rfl) (fun _ _ _ => rfl)
    obtain ⟨dx, h1⟩ := R.ins
    have est : Ha05.step st (.start n) = if n = 0 ∨ 3 < n then (st, [-1]) else if Ha05.PROCS ≤ st.procs.length then (st, [-6]) else ({ st with procs := st.procs ++ [Ha05.fresh n] }, Ha05.ints [st.procs.length + 1]) := rfl
    refine ⟨_, (pss_cons (ps_if (pt_not (pt_val (pe_c c_is_node hr (by decide) rfl (pa_cons (pv 1) pa_nil)))) (pss_one (ps_ret (pe_lst (pa_cons (pe_k T.k_NO_SUCH rfl) pa_nil)))) pss_nil)
    (pss_cons (ps_set (i := 2) sc_start.nd rfl (Or.inl rfl) (pe_c c_room_refusal hr (by decide) rfl (pa_cons (pv 0) pa_nil)))
    (pss_cons (ps_if (pt_cmpR op_ne (pv 2) (pe_k T.k_FITS rfl) (nomark _)) (pss_one (ps_ret (pe_lst (pa_cons (pv 2) pa_nil)))) pss_nil)
    (pss_one (ps_ret (pe_lst (pa_cons (pe_mt m_World_new_process hr (by decide) (pv 0) (pa_cons (pv 1) pa_nil)) pa_nil))))))), ?_⟩
    refine ⟨_, rfl, n, rfl, _, rfl, ?_⟩
    by_cases hn : 1 ≤ n ∧ n ≤ 3
    · rw [decide_eq_true hn]
      refine if_no rfl ?_
      rw [if_neg (by omega)] at est
      refine ⟨_, rfl, L, st, rfl, R, ?_⟩
      refine ⟨_, rfl, rfl, _, rfl, ?_⟩
      rcases room_cases st with ⟨a, b⟩ | ⟨a, b⟩
      · refine if_yes (ne_int (by rw [b]; decide)) ?_
        rw [if_pos (show Ha05.PROCS ≤ st.procs.length from a)] at est
        exact ⟨_, rfl, (by show 1 ≤ sizeLine; decide), fun r hr => hQ.one R hr est (by rw [b]; rfl)⟩
      · refine if_no (eq_int b) ?_
        rw [if_neg (show ¬ Ha05.PROCS ≤ st.procs.length from by show ¬ 12 ≤ st.procs.length; omega)] at est
        refine ⟨_, rfl, L.w, dx, _, rfl, h1, wF_m_new_process, _, rfl, L, st, n, rfl, R, by omega, fun l H' R' fr nl => ?_⟩
        refine ⟨(by show 1 ≤ sizeLine; decide), fun r hr => ?_⟩
        refine hQ.fin R' ⟨fr, fun b hb => ?_, rfl⟩ hr (by rw [est]) (by rw [est]; rfl)
        rw [add_ads] at hb
        rcases List.mem_append.mp hb with z | z
        · exact .inl z
        · exact .inr (nl b z)
    · rw [decide_eq_false hn]
      refine if_yes rfl ?_
      rw [if_pos (by omega)] at est
      exact ⟨(by show 1 ≤ sizeLine; decide), fun r hr => hQ.one R hr est rfl⟩
theorem cal_ends (T : Txt K mg c) (D : Dfn K mg "ends" s_ends) (c_process_refusal : Cal P w K mg base 2 "process_refusal" (spPref c)) (m_World_end : Met P w K mg base 4 c.w "end" (spEnd c)) : Cal P w K mg base 5 "ends" (spCall c 6) := by
  refine cal_of D sc_ends (fun _ _ _ _ _ _ us hl => match us, hl with | [_, _, _], _ => rfl) (fun vs H Q E h => ?_) (fun f cdv A outer s H vs Q E hr h => ?_)
  · obtain ⟨L, st, args, cl, rfl, hc, _⟩ := h
    obtain ⟨p, y, rfl, rfl⟩ := in2 (f := .ends) hc rfl (fun _ => rfl) (fun _ _ => rfl) (fun _ _ _ _ => rfl)
    rfl
  · obtain ⟨L, st, args, cl, rfl, hc, R, G, hQ⟩ := h
    obtain ⟨p, y, rfl, rfl⟩ := in2 (f := .ends) hc rfl (fun _ => rfl) (fun _ _ => rfl) (fun _ _ _ _ => rfl)
    obtain ⟨dx, h1⟩ := R.ins
    have est : Ha05.step st (.ends p y) = if Ha05.isThere st p = false ∨ 99 < y then (st, [-1]) else if Ha05.lives st p = false then (st, [-8]) else (Ha05.dies st p y, [0]) := rfl
    refine ⟨_, (pss_cons (ps_if (pt_cmpR op_gt (pv 2) (pe_k T.k_GREATEST_WHY rfl) (nomark _)) (pss_one (ps_ret (pe_lst (pa_cons (pe_k T.k_NO_SUCH rfl) pa_nil)))) pss_nil)
    (pss_cons (ps_set (i := 3) sc_ends.nd rfl (Or.inl rfl) (pe_c c_process_refusal hr (by decide) rfl (pa_cons (pv 0) (pa_cons (pv 1) pa_nil))))
    (pss_cons (ps_if (pt_cmpR op_ne (pv 3) (pe_k T.k_FITS rfl) (nomark _)) (pss_one (ps_ret (pe_lst (pa_cons (pv 3) pa_nil)))) pss_nil)
    (pss_cons (ps_expr (pe_mt m_World_end hr (by decide) (pv 0) (pa_cons (pv 1) (pa_cons (pv 2) pa_nil))))
    (pss_one (ps_ret (pe_lst (pa_cons pe_int pa_nil)))))))), ?_⟩
    refine ⟨_, rfl, _, _, rfl, rfl, _, rfl, ?_⟩
    by_cases hy : 99 < y
    · refine if_yes (decide_eq_true (by omega)) ?_
      rw [if_pos (.inr hy)] at est
      exact ⟨(by show 1 ≤ sizeLine; decide), fun r hr => hQ.one R hr est rfl⟩
    · refine if_no (decide_eq_false (by omega)) ?_
      refine ⟨_, rfl, _, rfl, L, st, p, rfl, R, ?_⟩
      refine ⟨_, rfl, rfl, _, rfl, ?_⟩
      rcases pref_cases st p with ⟨a, b⟩ | ⟨a, b, d⟩ | ⟨a, b, d, e⟩
      · refine if_yes (ne_int (by rw [b]; decide)) ?_
        rw [if_pos (.inl (isThere_no.mpr a))] at est
        exact ⟨_, rfl, (by show 1 ≤ sizeLine; decide), fun r hr => hQ.one R hr est (by rw [b]; rfl)⟩
      · refine if_yes (ne_int (by rw [d]; decide)) ?_
        rw [if_neg (by rw [isThere_iff.mpr a]; simp [hy]), if_pos b] at est
        exact ⟨_, rfl, (by show 1 ≤ sizeLine; decide), fun r hr => hQ.one R hr est (by rw [d]; rfl)⟩
      · refine if_no (eq_int e) ?_
        rw [if_neg (by rw [isThere_iff.mpr a]; simp [hy]), if_neg (by rw [b]; simp)] at est
        refine ⟨_, rfl, L.w, dx, _, rfl, h1, wF_m_end, _, rfl, _, rfl, L, st, p, y, rfl, R, G.wf, a, G.sz.mono (by decide), fun L' H' R' S' => ?_⟩
        exact ⟨(by show 1 ≤ sizeLine; decide), fun r hr => hQ.fin R' S'.stp hr (by rw [est]) (by rw [est]; rfl)⟩
theorem cal_trap (T : Txt K mg c) (D : Dfn K mg "trap" s_trap) (c_process_refusal : Cal P w K mg base 2 "process_refusal" (spPref c)) (m_World_process : Met P w K mg base 1 c.w "process" (spProc c)) : Cal P w K mg base 3 "trap" (spCall c 8) := by
  refine cal_of D sc_trap (fun _ _ _ _ _ _ us hl => match us, hl with | [_, _, _], _ => rfl) (fun vs H Q E h => ?_) (fun f cdv A outer s H vs Q E hr h => ?_)
  · obtain ⟨L, st, args, cl, rfl, hc, _⟩ := h
    obtain ⟨p, y, rfl, rfl⟩ := in2 (f := .trap) hc rfl (fun _ => rfl) (fun _ _ => rfl) (fun _ _ _ _ => rfl)
    rfl
  · obtain ⟨L, st, args, cl, rfl, hc, R, G, hQ⟩ := h
    obtain ⟨p, y, rfl, rfl⟩ := in2 (f := .trap) hc rfl (fun _ => rfl) (fun _ _ => rfl) (fun _ _ _ _ => rfl)
    obtain ⟨dx, h1⟩ := R.ins
    have est : Ha05.step st (.trap p y) = if Ha05.isThere st p = false ∨ 1 < y then (st, [-1]) else if Ha05.lives st p = false then (st, [-8]) else (setProc st p { proc st p with traps := y == 1 }, Ha05.ints [flag (proc st p).traps]) := rfl
    refine ⟨_, (pss_cons (ps_if (pt_cmpR op_gt (pv 2) pe_int (nomark _)) (pss_one (ps_ret (pe_lst (pa_cons (pe_k T.k_NO_SUCH rfl) pa_nil)))) pss_nil)
    (pss_cons (ps_set (i := 3) sc_trap.nd rfl (Or.inl rfl) (pe_c c_process_refusal hr (by decide) rfl (pa_cons (pv 0) (pa_cons (pv 1) pa_nil))))
    (pss_cons (ps_if (pt_cmpR op_ne (pv 3) (pe_k T.k_FITS rfl) (nomark _)) (pss_one (ps_ret (pe_lst (pa_cons (pv 3) pa_nil)))) pss_nil)
    (pss_cons (ps_set (i := 4) sc_trap.nd rfl (Or.inl rfl) (pe_mt m_World_process hr (by decide) (pv 0) (pa_cons (pv 1) pa_nil)))
    (pss_cons (ps_set (i := 5) sc_trap.nd rfl (Or.inl rfl) (pe_fld (pv 4) rfl))
    (pss_cons (ps_fld (pv 4) (pv 2) rfl)
    (pss_one (ps_ret (pe_lst (pa_cons (pv 5) pa_nil)))))))))), ?_⟩
    refine ⟨_, rfl, _, _, rfl, rfl, _, rfl, ?_⟩
    by_cases hy : 1 < y
    · refine if_yes (decide_eq_true (by omega)) ?_
      rw [if_pos (.inr hy)] at est
      exact ⟨(by show 1 ≤ sizeLine; decide), fun r hr => hQ.one R hr est rfl⟩
    · refine if_no (decide_eq_false (by omega)) ?_
      refine ⟨_, rfl, _, rfl, L, st, p, rfl, R, ?_⟩
      refine ⟨_, rfl, rfl, _, rfl, ?_⟩
      rcases pref_cases st p with ⟨a, b⟩ | ⟨a, b, d⟩ | ⟨a, b, d, e⟩
      · refine if_yes (ne_int (by rw [b]; decide)) ?_
        rw [if_pos (.inl (isThere_no.mpr a))] at est
        exact ⟨_, rfl, (by show 1 ≤ sizeLine; decide), fun r hr => hQ.one R hr est (by rw [b]; rfl)⟩
      · refine if_yes (ne_int (by rw [d]; decide)) ?_
        rw [if_neg (by rw [isThere_iff.mpr a]; simp [hy]), if_pos b] at est
        exact ⟨_, rfl, (by show 1 ≤ sizeLine; decide), fun r hr => hQ.one R hr est (by rw [d]; rfl)⟩
      · refine if_no (eq_int e) ?_
        rw [if_neg (by rw [isThere_iff.mpr a]; simp [hy]), if_neg (by rw [b]; simp)] at est
        obtain ⟨l, hl, Pr⟩ := R.prc a
        obtain ⟨ex, hi⟩ := Pr.ins
        refine ⟨_, rfl, L.w, dx, _, rfl, h1, wF_m_process, _, rfl, L.w, dx, L.pr, _, _, p, _, rfl, h1, wF_processes, R.pr, a.1, ps_get hl, ?_⟩
        refine ⟨_, rfl, l.a, c.p, ex, _, _, rfl, hi, T.clP, T.n_traps, pF_traps, ?_⟩
        refine ⟨_, rfl, _, rfl, l.a, c.p, ex, _, rfl, hi, T.clP, T.n_traps, lq pF_len, ?_⟩
        have ey : ni y = ni (flag (y == 1)) := by
          have : y = 0 ∨ y = 1 := by omega
          rcases this with z | z <;> rw [z] <;> rfl
        have ep : putF "traps" (ni y) (pF l (proc st p)) = pF l { proc st p with traps := y == 1 } := by
          rw [pF_eq, pR_p_traps, ey]
          rfl
        obtain ⟨R1, S1⟩ := R.trapping hl Pr (dx := ex) (b := y == 1)
        rw [ep]
        exact ⟨_, rfl, (by show 1 ≤ sizeLine; decide), fun r hr => hQ.fin R1 S1.stp hr (by rw [est]) (by rw [est]; rfl)⟩
theorem cal_stop' (T : Txt K mg c) (D : Dfn K mg "stop" s_stop) (c_sending_refusal : Cal P w K mg base 3 "sending_refusal" (spSref c)) (m_World_send : Met P w K mg base 3 c.w "send" (spSend c)) : Cal P w K mg base 4 "stop" (spCall c 7) := by
  refine cal_of D sc_stop (fun _ _ _ _ _ _ us hl => match us, hl with | [_, _, _, _], _ => rfl) (fun vs H Q E h => ?_) (fun f cdv A outer s H vs Q E hr h => ?_)
  · obtain ⟨L, st, args, cl, rfl, hc, _⟩ := h
    obtain ⟨p, q, y, rfl, rfl⟩ := in3 (f := .halt_) hc rfl (fun _ => rfl) (fun _ _ => rfl) (fun _ _ _ => rfl) (fun _ _ _ _ _ => rfl)
    rfl
  · obtain ⟨L, st, args, cl, rfl, hc, R, G, hQ⟩ := h
    obtain ⟨p, q, y, rfl, rfl⟩ := in3 (f := .halt_) hc rfl (fun _ => rfl) (fun _ _ => rfl) (fun _ _ _ => rfl) (fun _ _ _ _ _ => rfl)
    obtain ⟨dx, h1⟩ := R.ins
    have est : Ha05.step st (.halt_ p q y) = if Ha05.isThere st p = false ∨ Ha05.isThere st q = false ∨ 99 < y then (st, [-1]) else if Ha05.lives st p = false then (st, [-8]) else if Ha05.AIR ≤ st.air.length then (st, [-6]) else (Ha05.send st p q (.halt_ y), [0]) := rfl
    refine ⟨_, (pss_cons (ps_if (pt_cmpR op_gt (pv 3) (pe_k T.k_GREATEST_WHY rfl) (nomark _)) (pss_one (ps_ret (pe_lst (pa_cons (pe_k T.k_NO_SUCH rfl) pa_nil)))) pss_nil)
    (pss_cons (ps_set (i := 4) sc_stop.nd rfl (Or.inl rfl) (pe_c c_sending_refusal hr (by decide) rfl (pa_cons (pv 0) (pa_cons (pv 1) (pa_cons (pv 2) pa_nil)))))
    (pss_cons (ps_if (pt_cmpR op_ne (pv 4) (pe_k T.k_FITS rfl) (nomark _)) (pss_one (ps_ret (pe_lst (pa_cons (pv 4) pa_nil)))) pss_nil)
    (pss_cons (ps_expr (pe_mt m_World_send hr (by decide) (pv 0) (pa_cons (pv 1) (pa_cons (pv 2) (pa_cons (pe_tup (pa_cons (pe_k T.k_STOP rfl) (pa_cons (pv 3) pa_nil))) pa_nil)))))
    (pss_one (ps_ret (pe_lst (pa_cons pe_int pa_nil)))))))), ?_⟩
    refine ⟨_, rfl, _, _, rfl, rfl, _, rfl, ?_⟩
    by_cases hy : 99 < y
    · refine if_yes (decide_eq_true (by omega)) ?_
      rw [if_pos (.inr (.inr hy))] at est
      exact ⟨(by show 1 ≤ sizeLine; decide), fun r hr => hQ.one R hr est rfl⟩
    · refine if_no (decide_eq_false (by omega)) ?_
      refine ⟨_, rfl, _, rfl, _, rfl, L, st, p, q, rfl, R, ?_⟩
      refine ⟨_, rfl, rfl, _, rfl, ?_⟩
      rcases sref_step (s := st) (p := p) (q := q) (X := (Ha05.send st p q (.halt_ y), [0])) (B := 99 < y) hy with ⟨e, op, oq, lv, la, b⟩ | ⟨e, b⟩
      · refine if_no (eq_int e) ?_
        rw [b] at est
        refine ⟨_, rfl, L.w, dx, _, rfl, h1, wF_m_send, _, rfl, _, rfl, _, rfl, (by show 2 ≤ sizeLine; decide), fun t ht => ?_⟩
        refine ⟨L, st, p, q, t, .halt_ y, rfl, (R.new ht).srep, upd_same, G.wf, op, oq, by omega, fun H2 S2 => ?_⟩
        obtain ⟨R2, S3⟩ := (R.new ht).sends S2
        have S4 := (Step.new (L := L) ht).trans S3
        refine ⟨(by show 1 ≤ sizeLine; decide), fun r hr => hQ.fin R2 S4.stp hr (by rw [est, send_eq]) (by rw [est]; rfl)⟩
      · refine if_yes (ne_int e) ?_
        rw [b] at est
        exact ⟨_, rfl, (by show 1 ≤ sizeLine; decide), fun r hr => hQ.one R hr est rfl⟩
theorem cal_say (T : Txt K mg c) (D : Dfn K mg "say" s_say) (c_sending_refusal : Cal P w K mg base 3 "sending_refusal" (spSref c)) (m_World_send : Met P w K mg base 3 c.w "send" (spSend c)) : Cal P w K mg base 4 "say" (spCall c 9) := by
  refine cal_of D sc_say (fun _ _ _ _ _ _ us hl => match us, hl with | [_, _, _, _], _ => rfl) (fun vs H Q E h => ?_) (fun f cdv A outer s H vs Q E hr h => ?_)
  · obtain ⟨L, st, args, cl, rfl, hc, _⟩ := h
    obtain ⟨p, q, y, rfl, rfl⟩ := in3 (f := .say) hc rfl (fun _ => rfl) (fun _ _ => rfl) (fun _ _ _ => rfl) (fun _ _ _ _ _ => rfl)
    rfl
  · obtain ⟨L, st, args, cl, rfl, hc, R, G, hQ⟩ := h
    obtain ⟨p, q, y, rfl, rfl⟩ := in3 (f := .say) hc rfl (fun _ => rfl) (fun _ _ => rfl) (fun _ _ _ => rfl) (fun _ _ _ _ _ => rfl)
    obtain ⟨dx, h1⟩ := R.ins
    have est : Ha05.step st (.say p q y) = if Ha05.isThere st p = false ∨ Ha05.isThere st q = false then (st, [-1]) else if Ha05.lives st p = false then (st, [-8]) else if Ha05.AIR ≤ st.air.length then (st, [-6]) else (Ha05.send st p q (.word y), [0]) := rfl
    have est' : Ha05.step st (.say p q y) = if Ha05.isThere st p = false ∨ Ha05.isThere st q = false ∨ False then (st, [-1]) else if Ha05.lives st p = false then (st, [-8]) else if Ha05.AIR ≤ st.air.length then (st, [-6]) else (Ha05.send st p q (.word y), [0]) := by
      rw [est]
      simp only [or_false]
    refine ⟨_, (pss_cons (ps_set (i := 4) sc_say.nd rfl (Or.inl rfl) (pe_c c_sending_refusal hr (by decide) rfl (pa_cons (pv 0) (pa_cons (pv 1) (pa_cons (pv 2) pa_nil)))))
    (pss_cons (ps_if (pt_cmpR op_ne (pv 4) (pe_k T.k_FITS rfl) (nomark _)) (pss_one (ps_ret (pe_lst (pa_cons (pv 4) pa_nil)))) pss_nil)
    (pss_cons (ps_expr (pe_mt m_World_send hr (by decide) (pv 0) (pa_cons (pv 1) (pa_cons (pv 2) (pa_cons (pe_tup (pa_cons (pe_k T.k_WORD rfl) (pa_cons (pv 3) pa_nil))) pa_nil)))))
    (pss_one (ps_ret (pe_lst (pa_cons pe_int pa_nil))))))), ?_⟩
    refine ⟨_, rfl, _, rfl, _, rfl, L, st, p, q, rfl, R, ?_⟩
    refine ⟨_, rfl, rfl, _, rfl, ?_⟩
    rcases sref_step (s := st) (p := p) (q := q) (X := (Ha05.send st p q (.word y), [0])) (B := False) (fun z => z) with ⟨e, op, oq, lv, la, b⟩ | ⟨e, b⟩
    · refine if_no (eq_int e) ?_
      rw [b] at est'
      refine ⟨_, rfl, L.w, dx, _, rfl, h1, wF_m_send, _, rfl, _, rfl, _, rfl, (by show 2 ≤ sizeLine; decide), fun t ht => ?_⟩
      refine ⟨L, st, p, q, t, .word y, rfl, (R.new ht).srep, upd_same, G.wf, op, oq, by omega, fun H2 S2 => ?_⟩
      obtain ⟨R2, S3⟩ := (R.new ht).sends S2
      have S4 := (Step.new (L := L) ht).trans S3
      refine ⟨(by show 1 ≤ sizeLine; decide), fun r hr => hQ.fin R2 S4.stp hr (by rw [est', send_eq]) (by rw [est']; rfl)⟩
    · refine if_yes (ne_int e) ?_
      rw [b] at est'
      exact ⟨_, rfl, (by show 1 ≤ sizeLine; decide), fun r hr => hQ.one R hr est' rfl⟩
end
end PN
end
section
set_option maxRecDepth 100000
set_option maxHeartbeats 4000000
/-! The calls child, link, cut, watch, unwatch. -/
namespace PN
open PySem PySem.Spec PyProof.Rows L2
open Ha05 (Proc Fly Sig Link Note flag sigTold proc nodeOf conn wire setProc linkTo notes without withLink)
theorem find_insert (q k : Nat) : ∀ l : List Link, ((Ha05.insertLink ⟨q, k⟩ l).find? fun y => y.to == q) = some ⟨q, k⟩
  | [] => by simp [Ha05.insertLink, List.find?_cons]
  | z :: r => by
    unfold Ha05.insertLink
    by_cases c1 : q < z.to
    · rw [if_pos c1]; simp [List.find?_cons]
    · rw [if_neg c1]
      by_cases c2 : q = z.to
      · rw [if_pos c2]; simp [List.find?_cons]
      · rw [if_neg c2, List.find?_cons, show (z.to == q) = false by simp; omega]
        exact find_insert q k r
theorem link_with (x : Proc) (q k : Nat) : linkTo (withLink x q k) q = some ⟨q, k⟩ := find_insert q k x.links
theorem flag_ne {a b : Option Link} (h : a ≠ b) : flag (a != b) = 1 := by
  have : (a != b) = true := by simp [bne_iff_ne, h]
  rw [this]; rfl
theorem flag_eq {a b : Option Link} (h : a = b) : flag (a != b) = 0 := by
  have : (a != b) = false := by simp [h]
  rw [this]; rfl
section
variable {P : Program} {w : World} {K : PySem.W.Frag} {mg : Str → Option Value} {base : Heap} {c : Cs}
theorem cal_link' (T : Txt K mg c) (D : Dfn K mg "link" s_link) (c_joining_refusal : Cal P w K mg base 4 "joining_refusal" (spJref c)) (m_World_process : Met P w K mg base 1 c.w "process" (spProc c))
    (m_Process_link_holds : Met P w K mg base 1 c.p "link_holds" (spHolds c)) (m_World_send : Met P w K mg base 3 c.w "send" (spSend c)) : Cal P w K mg base 5 "link" (spCall c 2) := by
  refine cal_of D sc_link (fun _ _ _ _ _ _ us hl => match us, hl with | [_, _, _], _ => rfl) (fun vs H Q E h => ?_) (fun f cdv A outer s H vs Q E hr h => ?_)
  · obtain ⟨L, st, args, cl, rfl, hc, _⟩ := h
    obtain ⟨p, q, rfl, rfl⟩ := in2 (f := .link) hc rfl (fun _ => rfl) (fun _ _ => rfl) (fun _ _ _ _ => rfl)
    rfl
  · have hu := hu_of hr
    obtain ⟨L, st, args, cl, rfl, hc, R, G, hQ⟩ := h
    obtain ⟨p, q, rfl, rfl⟩ := in2 (f := .link) hc rfl (fun _ => rfl) (fun _ _ => rfl) (fun _ _ _ _ => rfl)
    obtain ⟨dx, h1⟩ := R.ins
    have est : Ha05.step st (.link p q) = if Ha05.isThere st p = false ∨ Ha05.isThere st q = false ∨ p = q then (st, [-1]) else if Ha05.lives st p = false then (st, [-8]) else if Ha05.AIR ≤ st.air.length then (st, [-6]) else
      (Ha05.links st p q, Ha05.ints [flag (linkTo (proc (Ha05.links st p q) p) q != linkTo (proc st p) q)]) := rfl
    refine ⟨_, (pss_cons (ps_set (i := 3) sc_link.nd rfl (Or.inl rfl) (pe_c c_joining_refusal hr (by decide) rfl (pa_cons (pv 0) (pa_cons (pv 1) (pa_cons (pv 2) pa_nil)))))
    (pss_cons (ps_if (pt_cmpR op_ne (pv 3) (pe_k T.k_FITS rfl) (nomark _)) (pss_one (ps_ret (pe_lst (pa_cons (pv 3) pa_nil)))) pss_nil)
    (pss_cons (ps_set (i := 4) sc_link.nd rfl (Or.inl rfl) (pe_mt m_World_process hr (by decide) (pv 0) (pa_cons (pv 1) pa_nil)))
    (pss_cons (ps_if (pt_val (pe_mt m_Process_link_holds hr (by decide) (pv 4) (pa_cons (pv 2) pa_nil))) (pss_one (ps_ret (pe_lst (pa_cons pe_int pa_nil)))) pss_nil)
    (pss_cons (ps_dput hu (pe_fld (pv 4) rfl) (pv 2) (pe_k T.k_HOLDS rfl) rfl)
    (pss_cons (ps_expr (pe_mt m_World_send hr (by decide) (pv 0) (pa_cons (pv 1) (pa_cons (pv 2) (pa_cons (pe_tup (pa_cons (pe_k T.k_LINK rfl) pa_nil)) pa_nil)))))
    (pss_one (ps_ret (pe_lst (pa_cons pe_int pa_nil)))))))))), ?_⟩
    refine ⟨_, rfl, _, rfl, _, rfl, L, st, p, q, rfl, R, ?_⟩
    refine ⟨_, rfl, rfl, _, rfl, ?_⟩
    rcases jref_step (s := st) (p := p) (q := q) (X := (Ha05.links st p q, Ha05.ints [flag (linkTo (proc (Ha05.links st p q) p) q != linkTo (proc st p) q)])) with ⟨e, npq, op, oq, lv, la, b⟩ | ⟨e, b⟩
    · refine if_no (eq_int e) ?_
      rw [b] at est
      obtain ⟨l, hl, Pr⟩ := R.prc op
      obtain ⟨ex, hi⟩ := Pr.ins
      obtain ⟨kvs, hli, hp⟩ := Pr.li
      have Pw := G.wf.pwf op
      have hzp := sml_proc G.sz op
      refine ⟨_, rfl, L.w, dx, _, rfl, h1, wF_m_process, _, rfl, L.w, dx, L.pr, _, _, p, _, rfl, h1, wF_processes, R.pr, op.1, ps_get hl, ?_⟩
      refine ⟨_, rfl, l.a, ex, _, rfl, hi, pF_m_link_holds, _, rfl, l.a, ex, l.li, _, kvs, _, rfl, hi, pF_links, hli, int_val hp Pw.lsort _, _, rfl, ?_⟩
      have hb := holds_val (q := q) hp Pw
      -- what is done where no link holds
      have go : (linkTo (proc st p) q ≠ some ⟨q, 0⟩) → Ha05.links st p q = Ha05.send (setProc st p (withLink (proc st p) q 0)) p q .link →
          ∀ (H1 : Hp), WRep c H1 L (setProc st p (withLink (proc st p) q 0)) → Step H L H1 L → ∀ t, H1 t = none → spSend c [.ref L.w, ni p, ni q, .ref t] (upd H1 t (.tup [V.int 1])) (fun _ H2 => ([V.int 1] : List V).length ≤ sizeLine ∧ ∀ r, H2 r = none → Q (.ref r) (upd H2 r (.lst [V.int 1]))) E0 := fun hne el H1 R1 S1 t ht => by
        refine ⟨L, _, p, q, t, .link, rfl, (R1.new ht).srep, upd_same, wf_set G.wf (pwf_with Pw oq), ok_set.mpr op, ok_set.mpr oq, (by show st.air.length ≤ 100000; omega), fun H2 S2 => ?_⟩
        obtain ⟨R2, S3⟩ := (R1.new ht).sends S2
        have S4 := (S1.trans (Step.new (L := L) ht)).trans S3
        refine ⟨(by show 1 ≤ sizeLine; decide), fun r hr => hQ.fin R2 S4.stp hr (by rw [est, el, send_eq]) ?_⟩
        rw [est, el]
        show [V.int 1] = [V.int ((flag _ : Nat) : Int)]
        rw [flag_ne]
        · rfl
        · rw [send_eq, proc_puts, proc_same op, link_with]
          exact fun z => hne z.symm
      cases e2 : linkTo (proc st p) q with
      | none =>
        rw [e2] at hb
        refine if_no hb ?_
        refine ⟨_, rfl, l.a, c.p, ex, _, _, rfl, hi, T.clP, T.n_links, pF_links, _, rfl, l.li, _, rfl, DPut.k (k := Sum.inl (q : Int)) hli ?_, ?_⟩
        · rw [links_len hp]
          exact Nat.lt_of_le_of_lt (show _ ≤ 5000 by omega) (by decide)
        · obtain ⟨R1, S1⟩ := R.linked hl Pr (links_put hp Pw.lsort q 0)
          obtain ⟨dw, hw1⟩ := R1.ins
          refine ⟨_, rfl, L.w, dw, _, rfl, hw1, wF_m_send, _, rfl, _, rfl, (by show 1 ≤ sizeLine; decide), fun t ht => ?_⟩
          exact go (by rw [e2]; simp) (by unfold Ha05.links; rw [e2]) _ R1 S1 t ht
      | some y =>
        rw [e2] at hb
        cases e0 : (y.cutting == 0) with
        | true =>
          refine if_yes (hb.trans e0) ?_
          have e1 : y.cutting = 0 := by simpa using e0
          have el : Ha05.links st p q = st := by
            unfold Ha05.links
            rw [e2]
            exact if_pos e1
          refine ⟨(by show 1 ≤ sizeLine; decide), fun r hr => hQ.one R hr (z := [0]) ?_ rfl⟩
          rw [est, el, flag_eq rfl]
          rfl
        | false =>
          have e1 : ¬ y.cutting = 0 := by simpa using e0
          refine if_no (hb.trans e0) ?_
          refine ⟨_, rfl, l.a, c.p, ex, _, _, rfl, hi, T.clP, T.n_links, pF_links, _, rfl, l.li, _, rfl, DPut.k (k := Sum.inl (q : Int)) hli ?_, ?_⟩
          · rw [links_len hp]
            exact Nat.lt_of_le_of_lt (show _ ≤ 5000 by omega) (by decide)
          · obtain ⟨R1, S1⟩ := R.linked hl Pr (links_put hp Pw.lsort q 0)
            obtain ⟨dw, hw1⟩ := R1.ins
            refine ⟨_, rfl, L.w, dw, _, rfl, hw1, wF_m_send, _, rfl, _, rfl, (by show 1 ≤ sizeLine; decide), fun t ht => ?_⟩
            refine go (by rw [e2]; intro z; exact e1 (by rw [Option.some.inj z])) ?_ _ R1 S1 t ht
            unfold Ha05.links
            rw [e2]
            exact if_neg e1
    · refine if_yes (ne_int e) ?_
      rw [b] at est
      exact ⟨_, rfl, (by show 1 ≤ sizeLine; decide), fun r hr => hQ.one R hr est rfl⟩
theorem cal_cut' (T : Txt K mg c) (D : Dfn K mg "cut" s_cut) (c_joining_refusal : Cal P w K mg base 4 "joining_refusal" (spJref c)) (m_World_process : Met P w K mg base 1 c.w "process" (spProc c))
    (m_Process_link_holds : Met P w K mg base 1 c.p "link_holds" (spHolds c)) (m_World_new_number : Met P w K mg base 1 c.w "new_number" (spNum c)) (m_World_send : Met P w K mg base 3 c.w "send" (spSend c)) : Cal P w K mg base 5 "cut" (spCall c 3) := by
  refine cal_of D sc_cut (fun _ _ _ _ _ _ us hl => match us, hl with | [_, _, _], _ => rfl) (fun vs H Q E h => ?_) (fun f cdv A outer s H vs Q E hr h => ?_)
  · obtain ⟨L, st, args, cl, rfl, hc, _⟩ := h
    obtain ⟨p, q, rfl, rfl⟩ := in2 (f := .cut) hc rfl (fun _ => rfl) (fun _ _ => rfl) (fun _ _ _ _ => rfl)
    rfl
  · have hu := hu_of hr
    obtain ⟨L, st, args, cl, rfl, hc, R, G, hQ⟩ := h
    obtain ⟨p, q, rfl, rfl⟩ := in2 (f := .cut) hc rfl (fun _ => rfl) (fun _ _ => rfl) (fun _ _ _ _ => rfl)
    obtain ⟨dx, h1⟩ := R.ins
    have est : Ha05.step st (.cut p q) = if Ha05.isThere st p = false ∨ Ha05.isThere st q = false ∨ p = q then (st, [-1]) else if Ha05.lives st p = false then (st, [-8]) else if Ha05.AIR ≤ st.air.length then (st, [-6]) else
      (Ha05.cuts st p q, Ha05.ints [(Ha05.cuts st p q).last - st.last]) := rfl
    refine ⟨_, (pss_cons (ps_set (i := 3) sc_cut.nd rfl (Or.inl rfl) (pe_c c_joining_refusal hr (by decide) rfl (pa_cons (pv 0) (pa_cons (pv 1) (pa_cons (pv 2) pa_nil)))))
    (pss_cons (ps_if (pt_cmpR op_ne (pv 3) (pe_k T.k_FITS rfl) (nomark _)) (pss_one (ps_ret (pe_lst (pa_cons (pv 3) pa_nil)))) pss_nil)
    (pss_cons (ps_set (i := 4) sc_cut.nd rfl (Or.inl rfl) (pe_mt m_World_process hr (by decide) (pv 0) (pa_cons (pv 1) pa_nil)))
    (pss_cons (ps_if (pt_not (pt_val (pe_mt m_Process_link_holds hr (by decide) (pv 4) (pa_cons (pv 2) pa_nil)))) (pss_one (ps_ret (pe_lst (pa_cons pe_int pa_nil)))) pss_nil)
    (pss_cons (ps_set (i := 5) sc_cut.nd rfl (Or.inl rfl) (pe_mt0 m_World_new_number hr (by decide) (pv 0)))
    (pss_cons (ps_dput hu (pe_fld (pv 4) rfl) (pv 2) (pv 5) rfl)
    (pss_cons (ps_expr (pe_mt m_World_send hr (by decide) (pv 0) (pa_cons (pv 1) (pa_cons (pv 2) (pa_cons (pe_tup (pa_cons (pe_k T.k_CUT rfl) (pa_cons (pv 5) pa_nil))) pa_nil)))))
    (pss_one (ps_ret (pe_lst (pa_cons pe_int pa_nil))))))))))), ?_⟩
    refine ⟨_, rfl, _, rfl, _, rfl, L, st, p, q, rfl, R, ?_⟩
    refine ⟨_, rfl, rfl, _, rfl, ?_⟩
    rcases jref_step (s := st) (p := p) (q := q) (X := (Ha05.cuts st p q, Ha05.ints [(Ha05.cuts st p q).last - st.last])) with ⟨e, npq, op, oq, lv, la, b⟩ | ⟨e, b⟩
    · refine if_no (eq_int e) ?_
      rw [b] at est
      obtain ⟨l, hl, Pr⟩ := R.prc op
      obtain ⟨ex, hi⟩ := Pr.ins
      obtain ⟨kvs, hli, hp⟩ := Pr.li
      have Pw := G.wf.pwf op
      have hzp := sml_proc G.sz op
      refine ⟨_, rfl, L.w, dx, _, rfl, h1, wF_m_process, _, rfl, L.w, dx, L.pr, _, _, p, _, rfl, h1, wF_processes, R.pr, op.1, ps_get hl, ?_⟩
      refine ⟨_, rfl, l.a, ex, _, rfl, hi, pF_m_link_holds, _, rfl, l.a, ex, l.li, _, kvs, _, rfl, hi, pF_links, hli, int_val hp Pw.lsort _, _, rfl, ?_⟩
      have hb := holds_val (q := q) hp Pw
      have no : Ha05.cuts st p q = st → ([V.int 0] : List V).length ≤ sizeLine ∧ ∀ r, H r = none → Q (.ref r) (upd H r (.lst [V.int 0])) := fun el => by
        refine ⟨(by show 1 ≤ sizeLine; decide), fun r hr => hQ.one R hr (z := [0]) ?_ rfl⟩
        rw [est, el, Nat.sub_self]
        rfl
      cases e2 : linkTo (proc st p) q with
      | none =>
        rw [e2] at hb
        refine if_yes (by rw [hb]; rfl) ?_
        exact no (by unfold Ha05.cuts; rw [e2])
      | some y =>
        rw [e2] at hb
        cases e0 : (y.cutting == 0) with
        | false =>
          have e1 : ¬ y.cutting = 0 := by simpa using e0
          refine if_yes (by rw [hb.trans e0]; rfl) ?_
          refine no ?_
          unfold Ha05.cuts
          rw [e2]
          exact if_neg e1
        | true =>
          have e1 : y.cutting = 0 := by simpa using e0
          refine if_no (by rw [hb.trans e0]; rfl) ?_
          have el : Ha05.cuts st p q = Ha05.send (setProc { st with last := st.last + 1 } p (withLink (proc st p) q (st.last + 1))) p q (.cut (st.last + 1)) := by
            unfold Ha05.cuts
            rw [e2]
            exact if_pos e1
          refine ⟨_, rfl, L.w, dx, _, rfl, h1, wF_m_new_number, L, st, rfl, R, fun H1 R1 S1 => ?_⟩
          have P1 : PRep c H1 l (proc { st with last := st.last + 1 } p) := R1.ps _ _ _ hl (proc_some (s := { st with last := st.last + 1 }) op)
          obtain ⟨ex1, hi1⟩ := P1.ins
          obtain ⟨kvs1, hli1, hp1⟩ := P1.li
          have hp1' : kvs1.Perm (kvL (proc st p).links) := hp1
          refine ⟨_, rfl, _, rfl, l.a, c.p, ex1, _, _, rfl, hi1, T.clP, T.n_links, pF_links, _, rfl, l.li, _, rfl, DPut.k (k := Sum.inl (q : Int)) hli1 ?_, ?_⟩
          · rw [links_len hp1']
            exact Nat.lt_of_le_of_lt (show _ ≤ 5000 by omega) (by decide)
          · obtain ⟨R2, S2⟩ := R1.linked hl P1 (links_put hp1' Pw.lsort q (st.last + 1))
            obtain ⟨dw, hw2⟩ := R2.ins
            refine ⟨_, rfl, L.w, dw, _, rfl, hw2, wF_m_send, _, rfl, _, rfl, _, rfl, (by show 2 ≤ sizeLine; decide), fun t ht => ?_⟩
            have W1 : Wf { st with last := st.last + 1 } := ⟨fun x hx => (G.wf.pr x hx).mono (Nat.le_refl _) (Nat.le_succ _), fun y hy => ⟨(G.wf.ar y hy).fr, (G.wf.ar y hy).to, (G.wf.ar y hy).far⟩, G.wf.wi, G.wf.few⟩
            have W2 : Wf (setProc { st with last := st.last + 1 } p (withLink (proc st p) q (st.last + 1))) := wf_set (s := { st with last := st.last + 1 }) W1 (pwf_with (Pw.mono (Nat.le_refl _) (Nat.le_succ _)) oq)
            refine ⟨L, _, p, q, t, .cut (st.last + 1), rfl, (R2.new ht).srep, upd_same, W2, ok_set.mpr op, ok_set.mpr oq, (by show st.air.length ≤ 100000; omega), fun H3 S3 => ?_⟩
            obtain ⟨R4, S4⟩ := (R2.new ht).sends S3
            have S5 := ((S1.trans S2).trans (Step.new (L := L) ht)).trans S4
            refine ⟨(by show 1 ≤ sizeLine; decide), fun r hr => hQ.fin R4 S5.stp hr (by rw [est, el, send_eq]; rfl) ?_⟩
            rw [est, el]
            have e5 : (Ha05.send (setProc { st with last := st.last + 1 } p (withLink (proc st p) q (st.last + 1))) p q (.cut (st.last + 1))).last = st.last + 1 := keep_send.last
            show [V.int 1] = [V.int ((_ - st.last : Nat) : Int)]
            rw [e5, Nat.add_sub_cancel_left]
            rfl
    · refine if_yes (ne_int e) ?_
      rw [b] at est
      exact ⟨_, rfl, (by show 1 ≤ sizeLine; decide), fun r hr => hQ.one R hr est rfl⟩
theorem cal_watch' (T : Txt K mg c) (D : Dfn K mg "watch" s_watch) (c_joining_refusal : Cal P w K mg base 4 "joining_refusal" (spJref c)) (m_World_process : Met P w K mg base 1 c.w "process" (spProc c))
    (m_World_new_number : Met P w K mg base 1 c.w "new_number" (spNum c)) (m_World_send : Met P w K mg base 3 c.w "send" (spSend c)) : Cal P w K mg base 5 "watch" (spCall c 4) := by
  refine cal_of D sc_watch (fun _ _ _ _ _ _ us hl => match us, hl with | [_, _, _], _ => rfl) (fun vs H Q E h => ?_) (fun f cdv A outer s H vs Q E hr h => ?_)
  · obtain ⟨L, st, args, cl, rfl, hc, _⟩ := h
    obtain ⟨p, q, rfl, rfl⟩ := in2 (f := .watch) hc rfl (fun _ => rfl) (fun _ _ => rfl) (fun _ _ _ _ => rfl)
    rfl
  · have hu := hu_of hr
    obtain ⟨L, st, args, cl, rfl, hc, R, G, hQ⟩ := h
    obtain ⟨p, q, rfl, rfl⟩ := in2 (f := .watch) hc rfl (fun _ => rfl) (fun _ _ => rfl) (fun _ _ _ _ => rfl)
    obtain ⟨dx, h1⟩ := R.ins
    have est : Ha05.step st (.watch p q) = if Ha05.isThere st p = false ∨ Ha05.isThere st q = false ∨ p = q then (st, [-1]) else if Ha05.lives st p = false then (st, [-8]) else if Ha05.AIR ≤ st.air.length then (st, [-6]) else
      (Ha05.watches st p q, Ha05.ints [st.last + 1]) := rfl
    refine ⟨_, (pss_cons (ps_set (i := 3) sc_watch.nd rfl (Or.inl rfl) (pe_c c_joining_refusal hr (by decide) rfl (pa_cons (pv 0) (pa_cons (pv 1) (pa_cons (pv 2) pa_nil)))))
    (pss_cons (ps_if (pt_cmpR op_ne (pv 3) (pe_k T.k_FITS rfl) (nomark _)) (pss_one (ps_ret (pe_lst (pa_cons (pv 3) pa_nil)))) pss_nil)
    (pss_cons (ps_set (i := 4) sc_watch.nd rfl (Or.inl rfl) (pe_mt m_World_process hr (by decide) (pv 0) (pa_cons (pv 1) pa_nil)))
    (pss_cons (ps_set (i := 5) sc_watch.nd rfl (Or.inl rfl) (pe_mt0 m_World_new_number hr (by decide) (pv 0)))
    (pss_cons (ps_dput hu (pe_fld (pv 4) rfl) (pv 5) (pv 2) rfl)
    (pss_cons (ps_expr (pe_mt m_World_send hr (by decide) (pv 0) (pa_cons (pv 1) (pa_cons (pv 2) (pa_cons (pe_tup (pa_cons (pe_k T.k_WATCH rfl) (pa_cons (pv 5) pa_nil))) pa_nil)))))
    (pss_one (ps_ret (pe_lst (pa_cons (pv 5) pa_nil)))))))))), ?_⟩
    refine ⟨_, rfl, _, rfl, _, rfl, L, st, p, q, rfl, R, ?_⟩
    refine ⟨_, rfl, rfl, _, rfl, ?_⟩
    rcases jref_step (s := st) (p := p) (q := q) (X := (Ha05.watches st p q, Ha05.ints [st.last + 1])) with ⟨e, npq, op, oq, lv, la, b⟩ | ⟨e, b⟩
    · refine if_no (eq_int e) ?_
      rw [b] at est
      obtain ⟨l, hl, Pr⟩ := R.prc op
      have Pw := G.wf.pwf op
      have hzp := sml_proc G.sz op
      refine ⟨_, rfl, L.w, dx, _, rfl, h1, wF_m_process, _, rfl, L.w, dx, L.pr, _, _, p, _, rfl, h1, wF_processes, R.pr, op.1, ps_get hl, ?_⟩
      refine ⟨_, rfl, L.w, dx, _, rfl, h1, wF_m_new_number, L, st, rfl, R, fun H1 R1 S1 => ?_⟩
      have P1 : PRep c H1 l (proc { st with last := st.last + 1 } p) := R1.ps _ _ _ hl (proc_some (s := { st with last := st.last + 1 }) op)
      obtain ⟨ex1, hi1⟩ := P1.ins
      refine ⟨_, rfl, _, rfl, l.a, c.p, ex1, _, _, rfl, hi1, T.clP, T.n_watches, pF_watches, _, rfl, l.wa, _, rfl, DPut.k (k := Sum.inl ((st.last + 1 : Nat) : Int)) P1.wa ?_, ?_⟩
      · rw [kvW_len]
        exact Nat.lt_of_le_of_lt (show (proc st p).watches.length ≤ 5000 by omega) (by decide)
      · have nk : ∀ y ∈ (proc st p).watches, y.1 ≠ st.last + 1 := fun y hy => by
          have := (Pw.wok y hy).2
          omega
        have ek : putK (kvW (proc { st with last := st.last + 1 } p).watches) (Sum.inl ((st.last + 1 : Nat) : Int)) (ni q) = kvW ((proc st p).watches ++ [(st.last + 1, q)]) := kvW_put nk
        rw [ek]
        obtain ⟨R2, S2⟩ := R1.watching hl P1 (ws := (proc st p).watches ++ [(st.last + 1, q)])
        obtain ⟨dw, hw2⟩ := R2.ins
        refine ⟨_, rfl, L.w, dw, _, rfl, hw2, wF_m_send, _, rfl, _, rfl, _, rfl, (by show 2 ≤ sizeLine; decide), fun t ht => ?_⟩
        have W1 : Wf { st with last := st.last + 1 } := ⟨fun x hx => (G.wf.pr x hx).mono (Nat.le_refl _) (Nat.le_succ _), fun y hy => ⟨(G.wf.ar y hy).fr, (G.wf.ar y hy).to, (G.wf.ar y hy).far⟩, G.wf.wi, G.wf.few⟩
        have Pw1 := Pw.mono (Nat.le_refl _) (Nat.le_succ st.last)
        have Pw2 : PWf st.procs.length (st.last + 1) { proc st p with watches := (proc st p).watches ++ [(st.last + 1, q)] } := by
          refine ⟨Pw1.node, Pw1.lsort, Pw1.lok, fun y hy => ?_, ?_, Pw1.dok, Pw1.why⟩
          · rcases List.mem_append.mp hy with z | z
            · exact Pw1.wok y z
            · rw [List.mem_singleton.mp z]
              exact ⟨oq, Nat.le_refl _⟩
          · rw [List.map_append]
            refine nd_snoc Pw.wnd fun m => ?_
            obtain ⟨y, hy, ey⟩ := List.mem_map.mp m
            exact nk y hy ey
        have W2 : Wf (setProc { st with last := st.last + 1 } p { proc st p with watches := (proc st p).watches ++ [(st.last + 1, q)] }) := wf_set (s := { st with last := st.last + 1 }) W1 Pw2
        refine ⟨L, _, p, q, t, .watch (st.last + 1), rfl, (R2.new ht).srep, upd_same, W2, ok_set.mpr op, ok_set.mpr oq, (by show st.air.length ≤ 100000; omega), fun H3 S3 => ?_⟩
        obtain ⟨R4, S4⟩ := (R2.new ht).sends S3
        have S5 := ((S1.trans S2).trans (Step.new (L := L) ht)).trans S4
        refine ⟨_, rfl, (by show 1 ≤ sizeLine; decide), fun r hr => hQ.fin R4 S5.stp hr ?_ (by rw [est]; rfl)⟩
        rw [est]
        unfold Ha05.watches
        rw [send_eq]
        rfl
    · refine if_yes (ne_int e) ?_
      rw [b] at est
      exact ⟨_, rfl, (by show 1 ≤ sizeLine; decide), fun r hr => hQ.one R hr est rfl⟩
theorem cal_unwatch' (T : Txt K mg c) (D : Dfn K mg "unwatch" s_unwatch) (c_process_refusal : Cal P w K mg base 2 "process_refusal" (spPref c)) (c_air_refusal : Cal P w K mg base 1 "air_refusal" (spAirr c))
    (m_World_process : Met P w K mg base 1 c.w "process" (spProc c)) (m_World_send : Met P w K mg base 3 c.w "send" (spSend c)) : Cal P w K mg base 4 "unwatch" (spCall c 5) := by
  refine cal_of D sc_unwatch (fun _ _ _ _ _ _ us hl => match us, hl with | [_, _, _], _ => rfl) (fun vs H Q E h => ?_) (fun f cdv A outer s H vs Q E hr h => ?_)
  · obtain ⟨L, st, args, cl, rfl, hc, _⟩ := h
    obtain ⟨p, q, rfl, rfl⟩ := in2 (f := .unwatch) hc rfl (fun _ => rfl) (fun _ _ => rfl) (fun _ _ _ _ => rfl)
    rfl
  · have hu := hu_of hr
    obtain ⟨L, st, args, cl, rfl, hc, R, G, hQ⟩ := h
    obtain ⟨p, k, rfl, rfl⟩ := in2 (f := .unwatch) hc rfl (fun _ => rfl) (fun _ _ => rfl) (fun _ _ _ _ => rfl)
    obtain ⟨dx, h1⟩ := R.ins
    have est : Ha05.step st (.unwatch p k) = if Ha05.isThere st p = false then (st, [-1]) else if Ha05.lives st p = false then (st, [-8]) else (match (proc st p).watches.find? fun y => y.1 == k with
      | none => (st, [0])
      | some y => if Ha05.AIR ≤ st.air.length then (st, [-6]) else (Ha05.send (setProc st p { proc st p with watches := (proc st p).watches.filter fun z => z.1 != k }) p y.2 (.unwatch k), [1])) := rfl
    refine ⟨_, (pss_cons (ps_set (i := 3) sc_unwatch.nd rfl (Or.inl rfl) (pe_c c_process_refusal hr (by decide) rfl (pa_cons (pv 0) (pa_cons (pv 1) pa_nil))))
    (pss_cons (ps_if (pt_cmpR op_ne (pv 3) (pe_k T.k_FITS rfl) (nomark _)) (pss_one (ps_ret (pe_lst (pa_cons (pv 3) pa_nil)))) pss_nil)
    (pss_cons (ps_set (i := 4) sc_unwatch.nd rfl (Or.inl rfl) (pe_mt m_World_process hr (by decide) (pv 0) (pa_cons (pv 1) pa_nil)))
    (pss_cons (ps_if (pt_cmp (pc_dnotin hu (pv 2) (pe_fld (pv 4) rfl))) (pss_one (ps_ret (pe_lst (pa_cons pe_int pa_nil)))) pss_nil)
    (pss_cons (ps_set (i := 3) sc_unwatch.nd rfl (Or.inl rfl) (pe_c c_air_refusal hr (by decide) rfl (pa_cons (pv 0) pa_nil)))
    (pss_cons (ps_if (pt_cmpR op_ne (pv 3) (pe_k T.k_FITS rfl) (nomark _)) (pss_one (ps_ret (pe_lst (pa_cons (pv 3) pa_nil)))) pss_nil)
    (pss_cons (ps_set (i := 5) sc_unwatch.nd rfl (Or.inl rfl) (pe_dpop1 (pe_fld (pv 4) rfl) (pv 2) ⟨rfl, rfl, rfl, rfl⟩))
    (pss_cons (ps_expr (pe_mt m_World_send hr (by decide) (pv 0) (pa_cons (pv 1) (pa_cons (pv 5) (pa_cons (pe_tup (pa_cons (pe_k T.k_UNWATCH rfl) (pa_cons (pv 2) pa_nil))) pa_nil)))))
    (pss_one (ps_ret (pe_lst (pa_cons pe_int pa_nil)))))))))))), ?_⟩
    refine ⟨_, rfl, _, rfl, L, st, p, rfl, R, ?_⟩
    refine ⟨_, rfl, rfl, _, rfl, ?_⟩
    rcases pref_cases st p with ⟨a, b⟩ | ⟨a, b, d⟩ | ⟨op, b, d, e⟩
    · refine if_yes (ne_int (by rw [b]; decide)) ?_
      rw [if_pos (isThere_no.mpr a)] at est
      exact ⟨_, rfl, (by show 1 ≤ sizeLine; decide), fun r hr => hQ.one R hr est (by rw [b]; rfl)⟩
    · refine if_yes (ne_int (by rw [d]; decide)) ?_
      rw [if_neg (by rw [isThere_iff.mpr a]; simp), if_pos b] at est
      exact ⟨_, rfl, (by show 1 ≤ sizeLine; decide), fun r hr => hQ.one R hr est (by rw [d]; rfl)⟩
    · refine if_no (eq_int e) ?_
      rw [if_neg (by rw [isThere_iff.mpr op]; simp), if_neg (by rw [b]; simp)] at est
      obtain ⟨l, hl, Pr⟩ := R.prc op
      obtain ⟨ex, hi⟩ := Pr.ins
      have Pw := G.wf.pwf op
      refine ⟨_, rfl, L.w, dx, _, rfl, h1, wF_m_process, _, rfl, L.w, dx, L.pr, _, _, p, _, rfl, h1, wF_processes, R.pr, op.1, ps_get hl, ?_⟩
      refine ⟨_, rfl, _, rfl, l.a, c.p, ex, _, _, rfl, hi, T.clP, T.n_watches, pF_watches, l.wa, _, rfl, DGet.k (k := Sum.inl (k : Int)) Pr.wa, _, rfl, ?_⟩
      have ev := kvW_val k (proc st p).watches
      cases ef : (proc st p).watches.find? fun y => y.1 == k with
      | none =>
        rw [ef] at ev est
        refine if_yes (by rw [ev]; rfl) ?_
        exact ⟨(by show 1 ≤ sizeLine; decide), fun r hr => hQ.one R hr est rfl⟩
      | some y =>
        rw [ef] at ev est
        refine if_no (by rw [ev]; rfl) ?_
        refine ⟨_, rfl, L, st, rfl, R, ?_⟩
        refine ⟨_, rfl, rfl, _, rfl, ?_⟩
        rcases airr_cases st with ⟨a1, a2⟩ | ⟨a1, a2⟩
        · refine if_yes (ne_int (by rw [a2]; decide)) ?_
          have est2 : Ha05.step st (.unwatch p k) = (st, [-6]) := est.trans (if_pos a1)
          exact ⟨_, rfl, (by show 1 ≤ sizeLine; decide), fun r hr => hQ.one R hr est2 (by rw [a2]; rfl)⟩
        · refine if_no (eq_int a2) ?_
          have est2 : Ha05.step st (.unwatch p k) = (Ha05.send (setProc st p { proc st p with watches := (proc st p).watches.filter fun z => z.1 != k }) p y.2 (.unwatch k), [1]) := est.trans (if_neg (by show ¬ 200 ≤ st.air.length; omega))
          refine ⟨_, rfl, l.a, c.p, ex, _, _, rfl, hi, T.clP, T.n_watches, pF_watches, l.wa, rfl, .inl ⟨_, .inl Pr.wa⟩, _, rfl, _, Sum.inl (k : Int), _, Pr.wa, rfl, ev, ?_⟩
          rw [kvW_drop]
          obtain ⟨R1, S1⟩ := R.watching hl Pr (ws := (proc st p).watches.filter fun y => y.1 != k)
          obtain ⟨dw, hw1⟩ := R1.ins
          have oq := (Pw.wok y (List.mem_of_find?_eq_some ef)).1
          refine ⟨_, rfl, L.w, dw, _, rfl, hw1, wF_m_send, _, rfl, _, rfl, _, rfl, (by show 2 ≤ sizeLine; decide), fun t ht => ?_⟩
          refine ⟨L, _, p, y.2, t, .unwatch k, rfl, (R1.new ht).srep, upd_same, wf_set G.wf (pwf_watches Pw), ok_set.mpr op, ok_set.mpr oq, (by show st.air.length ≤ 100000; omega), fun H2 S2 => ?_⟩
          obtain ⟨R2, S3⟩ := (R1.new ht).sends S2
          have S4 := (S1.trans (Step.new (L := L) ht)).trans S3
          refine ⟨(by show 1 ≤ sizeLine; decide), fun r hr => hQ.fin R2 S4.stp hr (by rw [est2, send_eq]) (by rw [est2]; rfl)⟩
end
end PN
end
section
set_option maxRecDepth 100000
set_option maxHeartbeats 4000000
/-! The call child. -/
namespace PN
open PySem PySem.Spec PyProof.Rows L2
open Ha05 (Proc Fly Sig Link Note flag sigTold proc nodeOf conn wire setProc linkTo notes without withLink)
def grown (s : Ha05.St) (x : Proc) : Ha05.St := { s with procs := s.procs ++ [x] }
theorem grown_len (s : Ha05.St) (x : Proc) : (grown s x).procs.length = s.procs.length + 1 := by simp [grown]
theorem grown_ok {s : Ha05.St} {x : Proc} {p : Nat} (h : Ok s p) : Ok (grown s x) p := ⟨h.1, by rw [grown_len]; exact Nat.le_succ_of_le h.2⟩
theorem grown_new (s : Ha05.St) (x : Proc) : Ok (grown s x) (s.procs.length + 1) := ⟨by omega, by rw [grown_len]; exact Nat.le_refl _⟩
theorem grown_proc {s : Ha05.St} {x : Proc} {p : Nat} (h : Ok s p) : proc (grown s x) p = proc s p := by
  have h1 : p - 1 < s.procs.length := by have := h.1; have := h.2; omega
  unfold Ha05.proc grown
  simp only [List.getD]
  rw [List.getElem?_append_left h1]
theorem grown_last (s : Ha05.St) (x : Proc) : proc (grown s x) (s.procs.length + 1) = x := by
  unfold Ha05.proc grown
  simp [List.getD]
section
variable {P : Program} {w : World} {K : PySem.W.Frag} {mg : Str → Option Value} {base : Heap} {c : Cs}
theorem cref_cases (s : Ha05.St) (p how : Nat) (X : Ha05.St × List Int) : (cref s p how = 0 ∧ how ≤ 2 ∧ Ok s p ∧ (proc s p).lives = true ∧ s.procs.length < 12 ∧
      (if Ha05.isThere s p = false ∨ 2 < how then (s, [-1]) else if Ha05.lives s p = false then (s, [-8]) else if Ha05.PROCS ≤ s.procs.length then (s, [-6]) else X) = X) ∨
    (cref s p how ≠ 0 ∧ (if Ha05.isThere s p = false ∨ 2 < how then (s, [-1]) else if Ha05.lives s p = false then (s, [-8]) else if Ha05.PROCS ≤ s.procs.length then (s, [-6]) else X) = (s, [cref s p how])) := by
  unfold cref
  by_cases hh : 2 < how
  · rw [if_pos hh, if_pos (.inr hh)]
    exact .inr ⟨by decide, rfl⟩
  · rw [if_neg hh]
    rcases pref_cases s p with ⟨h1, h2⟩ | ⟨h1, h2, h3⟩ | ⟨h1, h2, h3, h4⟩
    · rw [h2, if_pos (show (-1 : Int) ≠ 0 by decide), if_pos (.inl (isThere_no.mpr h1))]
      exact .inr ⟨by decide, rfl⟩
    · rw [h3, if_pos (show (-8 : Int) ≠ 0 by decide), if_neg (by rw [isThere_iff.mpr h1]; simp [hh]), if_pos h2]
      exact .inr ⟨by decide, rfl⟩
    · rw [h4, if_neg (by simp), if_neg (by rw [isThere_iff.mpr h1]; simp [hh]), if_neg (by rw [h2]; simp)]
      rcases room_cases s with ⟨a, b⟩ | ⟨a, b⟩
      · rw [b, if_pos (show Ha05.PROCS ≤ s.procs.length from a)]
        exact .inr ⟨by decide, rfl⟩
      · rw [b, if_neg (show ¬ Ha05.PROCS ≤ s.procs.length from by show ¬ 12 ≤ s.procs.length; omega)]
        exact .inl ⟨rfl, by omega, h1, h3, a, rfl⟩
theorem cal_child (T : Txt K mg c) (D : Dfn K mg "child" s_child) (c_child_refusal : Cal P w K mg base 3 "child_refusal" (spCref c)) (m_World_process : Met P w K mg base 1 c.w "process" (spProc c))
    (m_World_new_process : Met P w K mg base 3 c.w "new_process" (spNewP c)) (m_World_new_number : Met P w K mg base 1 c.w "new_number" (spNum c)) : Cal P w K mg base 4 "child" (spCall c 1) := by
  refine cal_of D sc_child (fun _ _ _ _ _ _ us hl => match us, hl with | [_, _, _], _ => rfl) (fun vs H Q E h => ?_) (fun f cdv A outer s H vs Q E hr h => ?_)
  · obtain ⟨L, st, args, cl, rfl, hc, _⟩ := h
    obtain ⟨p, q, rfl, rfl⟩ := in2 (f := .child) hc rfl (fun _ => rfl) (fun _ _ => rfl) (fun _ _ _ _ => rfl)
    rfl
  · have hu := hu_of hr
    obtain ⟨L, st, args, cl, rfl, hc, R, G, hQ⟩ := h
    obtain ⟨p, how, rfl, rfl⟩ := in2 (f := .child) hc rfl (fun _ => rfl) (fun _ _ => rfl) (fun _ _ _ _ => rfl)
    obtain ⟨dx, h1⟩ := R.ins
    have est : Ha05.step st (.child p how) = if Ha05.isThere st p = false ∨ 2 < how then (st, [-1]) else if Ha05.lives st p = false then (st, [-8]) else if Ha05.PROCS ≤ st.procs.length then (st, [-6]) else
      (Ha05.child st p how, Ha05.ints [st.procs.length + 1, if how = 2 then st.last + 1 else 0]) := rfl
    refine ⟨_, (pss_cons (ps_set (i := 3) sc_child.nd rfl (Or.inl rfl) (pe_c c_child_refusal hr (by decide) rfl (pa_cons (pv 0) (pa_cons (pv 1) (pa_cons (pv 2) pa_nil)))))
    (pss_cons (ps_if (pt_cmpR op_ne (pv 3) (pe_k T.k_FITS rfl) (nomark _)) (pss_one (ps_ret (pe_lst (pa_cons (pv 3) pa_nil)))) pss_nil)
    (pss_cons (ps_set (i := 4) sc_child.nd rfl (Or.inl rfl) (pe_mt m_World_process hr (by decide) (pv 0) (pa_cons (pv 1) pa_nil)))
    (pss_cons (ps_set (i := 5) sc_child.nd rfl (Or.inl rfl) (pe_mt m_World_new_process hr (by decide) (pv 0) (pa_cons (pe_fld (pv 4) rfl) pa_nil)))
    (pss_cons (ps_set (i := 6) sc_child.nd rfl (Or.inl rfl) (pe_mt m_World_process hr (by decide) (pv 0) (pa_cons (pv 5) pa_nil)))
    (pss_cons (ps_set (i := 7) sc_child.nd rfl (Or.inl rfl) pe_int)
    (pss_cons (ps_if (pt_cmpR op_eq (pv 2) (pe_k T.k_LINKED rfl) (nomark _)) (pss_cons (ps_dput hu (pe_fld (pv 4) rfl) (pv 5) (pe_k T.k_HOLDS rfl) rfl)
    (pss_one (ps_dput hu (pe_fld (pv 6) rfl) (pv 1) (pe_k T.k_HOLDS rfl) rfl))) (pss_one (ps_if (pt_cmpR op_eq (pv 2) (pe_k T.k_WATCHED rfl) (nomark _)) (pss_cons (ps_set (i := 7) sc_child.nd rfl (Or.inl rfl) (pe_mt0 m_World_new_number hr (by decide) (pv 0)))
    (pss_cons (ps_dput hu (pe_fld (pv 4) rfl) (pv 7) (pv 5) rfl)
    (pss_one (ps_dput hu (pe_fld (pv 6) rfl) (pv 7) (pv 1) rfl)))) pss_nil)))
    (pss_one (ps_ret (pe_lst (pa_cons (pv 5) (pa_cons (pv 7) pa_nil)))))))))))), ?_⟩
    refine ⟨_, rfl, _, rfl, _, rfl, L, st, p, how, rfl, R, ?_⟩
    refine ⟨_, rfl, rfl, _, rfl, ?_⟩
    rcases cref_cases st p how (Ha05.child st p how, Ha05.ints [st.procs.length + 1, if how = 2 then st.last + 1 else 0]) with ⟨e, hh, op, lv, lp12, b⟩ | ⟨e, b⟩
    · refine if_no (eq_int e) ?_
      rw [b] at est
      obtain ⟨l, hl, Pr⟩ := R.prc op
      obtain ⟨ex, hi⟩ := Pr.ins
      have Pw := G.wf.pwf op
      have hzp := sml_proc G.sz op
      refine ⟨_, rfl, L.w, dx, _, rfl, h1, wF_m_process, _, rfl, L.w, dx, L.pr, _, _, p, _, rfl, h1, wF_processes, R.pr, op.1, ps_get hl, ?_⟩
      refine ⟨_, rfl, L.w, dx, _, rfl, h1, wF_m_new_process, _, rfl, l.a, c.p, ex, _, _, rfl, hi, T.clP, T.n_node, pF_node, L, st, nodeOf st p, rfl, R, by omega, fun l2 H1 R1 fr nl => ?_⟩
      have R1 : WRep c H1 (L.add l2) (grown st (Ha05.fresh (nodeOf st p))) := R1
      have hl1 : (L.add l2).ps[p - 1]? = some l := by
        show (L.ps ++ [l2])[p - 1]? = some l
        rw [List.getElem?_append_left (by rw [R.len]; have := op.1; have := op.2; omega)]
        exact hl
      have hl2 : (L.add l2).ps[st.procs.length + 1 - 1]? = some l2 := by
        show (L.ps ++ [l2])[st.procs.length + 1 - 1]? = some l2
        rw [Nat.add_sub_cancel, ← R.len]
        simp
      have S1 : Stp H L H1 (L.add l2) := ⟨fr, fun b hb => by
        rw [add_ads] at hb
        rcases List.mem_append.mp hb with z | z
        · exact .inl z
        · exact .inr (nl b z), rfl⟩
      have op1 := grown_ok (x := Ha05.fresh (nodeOf st p)) op
      have oq1 := grown_new st (Ha05.fresh (nodeOf st p))
      have ncp : st.procs.length + 1 ≠ p := by have := op.2; omega
      have ep1 : proc (grown st (Ha05.fresh (nodeOf st p))) p = proc st p := grown_proc op
      have eq1 := grown_last st (Ha05.fresh (nodeOf st p))
      obtain ⟨dx1, h2⟩ := R1.ins
      refine ⟨_, rfl, L.w, dx1, _, rfl, h2, wF_m_process, _, rfl, L.w, dx1, L.pr, _, _, st.procs.length + 1, _, rfl, h2, wF_processes, R1.pr, by omega, ps_get hl2, ?_⟩
      refine ⟨_, rfl, rfl, _, rfl, ?_⟩
      by_cases k1 : how = 1
      · refine if_yes (decide_eq_true (congrArg ni k1)) ?_
        have P1 := R1.ps _ _ _ hl1 (proc_some op1)
        obtain ⟨ex1, hi1⟩ := P1.ins
        obtain ⟨kvs1, hli1, hp1⟩ := P1.li
        have hp1' : kvs1.Perm (kvL (proc st p).links) := by rw [← ep1]; exact hp1
        refine ⟨_, rfl, l.a, c.p, ex1, _, _, rfl, hi1, T.clP, T.n_links, pF_links, _, rfl, l.li, _, rfl, DPut.k (k := Sum.inl ((st.procs.length + 1 : Nat) : Int)) hli1 ?_, ?_⟩
        · rw [links_len hp1']
          exact Nat.lt_of_le_of_lt (show _ ≤ 5000 by omega) (by decide)
        · obtain ⟨R2, S2⟩ := R1.linked hl1 P1 (ls := Ha05.insertLink ⟨st.procs.length + 1, 0⟩ (proc st p).links) (links_put hp1' Pw.lsort (st.procs.length + 1) 0)
          have oq2 : Ok (setProc (grown st (Ha05.fresh (nodeOf st p))) p { proc (grown st (Ha05.fresh (nodeOf st p))) p with links := Ha05.insertLink ⟨st.procs.length + 1, 0⟩ (proc st p).links }) (st.procs.length + 1) := ok_set.mpr oq1
          have eq2 : proc (setProc (grown st (Ha05.fresh (nodeOf st p))) p { proc (grown st (Ha05.fresh (nodeOf st p))) p with links := Ha05.insertLink ⟨st.procs.length + 1, 0⟩ (proc st p).links }) (st.procs.length + 1) = Ha05.fresh (nodeOf st p) := (proc_ne op.1 (by omega) ncp).trans eq1
          have P2 := R2.ps _ _ _ hl2 (proc_some oq2)
          obtain ⟨ex2, hi2⟩ := P2.ins
          obtain ⟨kvs2, hli2, hp2⟩ := P2.li
          have hp2' : kvs2.Perm (kvL []) := by
            rw [eq2] at hp2
            exact hp2
          refine ⟨_, rfl, l2.a, c.p, ex2, _, _, rfl, hi2, T.clP, T.n_links, pF_links, _, rfl, l2.li, _, rfl, DPut.k (k := Sum.inl (p : Int)) hli2 ?_, ?_⟩
          · rw [links_len hp2']
            decide
          · obtain ⟨R3, S3⟩ := R2.linked hl2 P2 (ls := Ha05.insertLink ⟨p, 0⟩ []) (links_put hp2' List.Pairwise.nil p 0)
            refine ⟨_, rfl, _, rfl, (by show 2 ≤ sizeLine; decide), fun r hr => hQ.fin R3 ((S1.trans S2.stp).trans S3.stp) hr ?_ ?_⟩
            · rw [est]
              unfold Ha05.child
              dsimp only
              rw [if_pos k1]
              congr 1
              rw [eq2]
              show setProc (setProc (grown st (Ha05.fresh (nodeOf st p))) p (withLink (proc (grown st (Ha05.fresh (nodeOf st p))) p) (st.procs.length + 1) 0)) (st.procs.length + 1) (withLink (Ha05.fresh (nodeOf st p)) p 0) = _
              unfold Ha05.withLink
              rw [ep1]
              rfl
            · rw [est, if_neg (by omega)]
              rfl
      · refine if_no (decide_eq_false fun z => k1 (ni_inj (b := 1) z)) ?_
        refine ⟨_, rfl, rfl, _, rfl, ?_⟩
        by_cases k2 : how = 2
        · refine if_yes (decide_eq_true (congrArg ni k2)) ?_
          refine ⟨_, rfl, L.w, dx1, _, rfl, h2, wF_m_new_number, L.add l2, _, rfl, R1, fun H2 R2 S2 => ?_⟩
          have R2 : WRep c H2 (L.add l2) { grown st (Ha05.fresh (nodeOf st p)) with last := st.last + 1 } := R2
          have op2 : Ok { grown st (Ha05.fresh (nodeOf st p)) with last := st.last + 1 } p := op1
          have P2 : PRep c H2 l (proc { grown st (Ha05.fresh (nodeOf st p)) with last := st.last + 1 } p) := R2.ps _ _ _ hl1 (proc_some op2)
          have ep2 : proc { grown st (Ha05.fresh (nodeOf st p)) with last := st.last + 1 } p = proc st p := ep1
          obtain ⟨ex2, hi2⟩ := P2.ins
          refine ⟨_, rfl, _, rfl, l.a, c.p, ex2, _, _, rfl, hi2, T.clP, T.n_watches, pF_watches, _, rfl, l.wa, _, rfl, DPut.k (k := Sum.inl ((st.last + 1 : Nat) : Int)) P2.wa ?_, ?_⟩
          · rw [kvW_len, ep2]
            exact Nat.lt_of_le_of_lt (show _ ≤ 5000 by omega) (by decide)
          · have nk : ∀ y ∈ (proc st p).watches, y.1 ≠ st.last + 1 := fun y hy => by
              have := (Pw.wok y hy).2
              omega
            have ek : putK (kvW (proc { grown st (Ha05.fresh (nodeOf st p)) with last := st.last + 1 } p).watches) (Sum.inl ((st.last + 1 : Nat) : Int)) (ni (st.procs.length + 1)) = kvW ((proc st p).watches ++ [(st.last + 1, st.procs.length + 1)]) := by
              rw [ep2]
              exact kvW_put nk
            rw [ek]
            obtain ⟨R3, S3⟩ := R2.watching hl1 P2 (ws := (proc st p).watches ++ [(st.last + 1, st.procs.length + 1)])
            have oq3 : Ok (setProc { grown st (Ha05.fresh (nodeOf st p)) with last := st.last + 1 } p { proc { grown st (Ha05.fresh (nodeOf st p)) with last := st.last + 1 } p with watches := (proc st p).watches ++ [(st.last + 1, st.procs.length + 1)] }) (st.procs.length + 1) := ok_set.mpr oq1
            have eq3 : proc (setProc { grown st (Ha05.fresh (nodeOf st p)) with last := st.last + 1 } p { proc { grown st (Ha05.fresh (nodeOf st p)) with last := st.last + 1 } p with watches := (proc st p).watches ++ [(st.last + 1, st.procs.length + 1)] }) (st.procs.length + 1) = Ha05.fresh (nodeOf st p) := (proc_ne op.1 (by omega) ncp).trans eq1
            have P3 := R3.ps _ _ _ hl2 (proc_some oq3)
            obtain ⟨ex3, hi3⟩ := P3.ins
            refine ⟨_, rfl, _, rfl, l2.a, c.p, ex3, _, _, rfl, hi3, T.clP, T.n_watched_by, pF_watched_by, _, rfl, l2.wd, _, rfl, DPut.k (k := Sum.inl ((st.last + 1 : Nat) : Int)) P3.wd ?_, ?_⟩
            · rw [kvW_len, eq3]
              show 0 < sizeLine
              decide
            · have ek3 : putK (kvW (proc (setProc { grown st (Ha05.fresh (nodeOf st p)) with last := st.last + 1 } p { proc { grown st (Ha05.fresh (nodeOf st p)) with last := st.last + 1 } p with watches := (proc st p).watches ++ [(st.last + 1, st.procs.length + 1)] }) (st.procs.length + 1)).watched) (Sum.inl ((st.last + 1 : Nat) : Int)) (ni p) = kvW [(st.last + 1, p)] := by
                rw [eq3]
                exact kvW_put (l := []) (fun y hy => by cases hy)
              rw [ek3]
              obtain ⟨R4, S4⟩ := R3.watched hl2 P3 (ws := [(st.last + 1, p)])
              refine ⟨_, rfl, _, rfl, (by show 2 ≤ sizeLine; decide), fun r hr => hQ.fin R4 (((S1.trans S2.stp).trans S3.stp).trans S4.stp) hr ?_ ?_⟩
              · rw [est]
                unfold Ha05.child
                dsimp only
                rw [if_neg k1, if_pos k2]
                congr 1
                rw [eq3]
                rw [ep2]
                show setProc (setProc { grown st (Ha05.fresh (nodeOf st p)) with last := st.last + 1 } p { proc (grown st (Ha05.fresh (nodeOf st p))) p with watches := (proc (grown st (Ha05.fresh (nodeOf st p))) p).watches ++ [(st.last + 1, st.procs.length + 1)] }) (st.procs.length + 1) { Ha05.fresh (nodeOf st p) with watched := [(st.last + 1, p)] } = _
                rw [ep1]
              · rw [est, if_pos k2]
                rfl
        · refine if_no (decide_eq_false fun z => k2 (ni_inj (b := 2) z)) ?_
          refine ⟨_, rfl, _, rfl, (by show 2 ≤ sizeLine; decide), fun r hr => hQ.fin R1 S1 hr ?_ ?_⟩
          · rw [est]
            unfold Ha05.child
            dsimp only
            rw [if_neg k1, if_neg k2]
            rfl
          · rw [est, if_neg k2]
            rfl
    · refine if_yes (ne_int e) ?_
      rw [b] at est
      exact ⟨_, rfl, (by show 1 ≤ sizeLine; decide), fun r hr => hQ.one R hr est rfl⟩
end
end PN
end
section
set_option maxRecDepth 100000
set_option maxHeartbeats 4000000
/-! What is told of a world. -/
namespace PN
open PySem PySem.Spec PyProof.Rows L2
open Ha05 (Proc Fly Sig Link Note flag sigTold proc nodeOf conn wire setProc linkTo notes without withLink)
theorem same_new {H H' : Hp} {q : Addr} {o : HO} (s : Same H H') (h : H' q = none) : Same H (upd H' q o) := fun b u e => upd_new (s b u e) h
theorem same_mut {H H' : Hp} {q : Addr} {o : HO} (s : Same H H') (h : H q = none) : Same H (upd H' q o) := fun b u e => upd_keep (s b u e) (ne_of_none e h)
theorem flat_snoc {α β : Type} (l : List α) (x : α) (f : α → List β) : (l ++ [x]).flatMap f = l.flatMap f ++ f x := by simp
theorem flat_len {α β : Type} (f : α → List β) (n : Nat) (hf : ∀ x, (f x).length ≤ n) : ∀ l : List α, (l.flatMap f).length ≤ n * l.length
  | [] => by simp
  | x :: r => by
    have h1 := flat_len f n hf r
    have h2 := hf x
    rw [List.flatMap_cons, List.length_append, List.length_cons, Nat.mul_succ]; omega
def two (y : Nat × Nat) : List V := [ni y.1, ni y.2]
def twoL (y : Link) : List V := [ni y.to, ni y.cutting]
section
variable {P : Program} {w : World} {K : PySem.W.Frag} {mg : Str → Option Value} {base : Heap} {c : Cs}
def spJoined : Sp := fun vs H Q _ => ∃ (d : Addr) (l : List (Nat × Nat)), vs = [.ref d] ∧ H d = some (.dK (kvW l)) ∧ l.length ≤ 5000 ∧
  ∀ r H', Same H H' → H r = none → H' r = some (.lst (ni l.length :: l.flatMap two)) → Q (.ref r) H'
theorem cal_joined (T : Txt K mg c) (D : Dfn K mg "told_of_joined" s_told_of_joined) : Cal P w K mg base 1 "told_of_joined" spJoined := by
  refine cal_of D sc_told_of_joined (fun _ _ _ _ _ _ us hl => match us, hl with | [_], _ => rfl) (fun vs H Q E h => ?_) (fun f cdv A outer s H vs Q E hr h => ?_)
  · obtain ⟨_, _, rfl, _⟩ := h; rfl
  · obtain ⟨d, l, rfl, hd, hz, hQ⟩ := h
    refine ⟨_, (pss_cons (ps_set (i := 1) sc_told_of_joined.nd rfl (Or.inl rfl) (pe_lst (pa_cons (pe_callB call_lenD (by rfl) T.m_len PySem.boot_len (pa_cons (pv 0) pa_nil)) pa_nil)))
    (pss_cons (ps_lock (ps_for PassesOwn.never rfl (pi_items (pv 0)) (pg_tup rfl (pgs_cons (pg_name (i := 2) sc_told_of_joined.nd rfl (Or.inl rfl)) (pgs_cons (pg_name (i := 3) sc_told_of_joined.nd rfl (Or.inl rfl)) pgs_nil)))
    (pss_one (ps_expr (pe_bm PySem.F.plainAttrs_list PySem.F.slot_list_extend PySem.F.type_list_extend mt_extend (pv 1) (pa_cons (pe_lst (pa_cons (pv 2) (pa_cons (pv 3) pa_nil))) pa_nil))))))
    (pss_one (ps_ret (pv 1))))), ?_⟩
    refine ⟨_, rfl, d, _, rfl, hd, (by show 1 ≤ sizeLine; decide), fun r nr => ?_⟩
    have dr : d ≠ r := ne_of_none hd nr
    refine ⟨d, _, upd_new hd nr, trivial, fun od => ?_⟩
    refine ⟨_, rfl, d, od, kvW l, rfl, upd_same, for_it walk_items
      (fun i σ H' => ∃ (v2 v3 : Option V) (Hu : Hp), σ = [some (.ref d), some (.ref r), v2, v3] ∧ H' = upd Hu d (.frz od (.dK (kvW l))) ∧ Hu d = some (.dK (kvW l)) ∧ Same H Hu ∧ Hu r = some (.lst (ni l.length :: (l.take i).flatMap two)))
      ⟨none, none, _, rfl, rfl, upd_new hd nr, same_new (Same.refl H) nr, ?_⟩ (fun i σ H' _ ⟨_, _, _, _, z, _⟩ => by rw [z]; exact upd_same) ?_ ?_⟩
    · rw [upd_same, List.take_zero, kvW_len]
      rfl
    · rintro i v σ Ha H' hlt ⟨v2, v3, Hu, rfl, rfl, hud, sm, hur⟩ ⟨Tt, vk, vq, rfl, nT, rfl, ek, eq⟩
      obtain ⟨y, hy, rfl, rfl⟩ := kvW_item ek eq
      refine ⟨Tt, _, rfl, SqT.of upd_same, rfl, _, _, rfl, _, _, rfl, rfl, ?_⟩
      have hr1 := upd_new (u := .tup [ni y.1, ni y.2]) (upd_keep (u := .frz od (.dK (kvW l))) hur (Ne.symm dr)) nT
      refine ⟨_, rfl, .inl ⟨rfl, _, SqL.of hr1⟩, _, rfl, _, rfl, (by show 2 ≤ sizeLine; decide), fun q nq => ?_⟩
      refine ⟨r, q, _, _, rfl, rfl, upd_new hr1 nq, upd_same, ?_, ?_⟩
      · have a1 := flat_len two 2 (fun _ => Nat.le_refl 2) (l.take i)
        have a2 : (l.take i).length ≤ l.length := by rw [List.length_take]; omega
        rw [List.length_cons]
        show _ + 2 ≤ sizeLine
        exact Nat.le_trans (show _ ≤ 20000 by omega) (by decide)
      · refine ⟨_, _, upd (upd (upd (upd Hu Tt (.tup [ni y.1, ni y.2])) q (.lst [ni y.1, ni y.2])) r (.lst (ni l.length :: (l.take i).flatMap two ++ [ni y.1, ni y.2]))) d (.dK (kvW l)), rfl, ?_, upd_same, ?_, ?_⟩
        · funext b
          have nTd : Tt ≠ d := new_ne nT
          have nqd : q ≠ d := new_ne (new_old nq)
          unfold upd
          by_cases b1 : b = d
          · rw [b1]
            simp only [if_neg dr, if_neg (Ne.symm nTd), if_neg (Ne.symm nqd), if_true]
          · simp only [if_neg b1]
        · have mT : Hu Tt = none := new_old nT
          have mq : upd Hu Tt (.tup [ni y.1, ni y.2]) q = none := by
            have z1 : q ≠ Tt := new_ne nq
            have z2 := new_old (new_old nq)
            rw [upd_ne z1]
            exact z2
          have sm1 := same_mut (o := .lst (ni l.length :: (l.take i).flatMap two ++ [ni y.1, ni y.2])) (same_new (o := .lst [ni y.1, ni y.2]) (same_new (o := .tup [ni y.1, ni y.2]) sm mT) mq) nr
          intro b o e
          by_cases b1 : b = d
          · rw [b1, hd] at e
            rw [b1, upd_same]
            exact e
          · exact upd_keep (sm1 b o e) b1
        · rw [upd_ne (Ne.symm dr), upd_same, take_next hy, flat_snoc]
          rfl
    · rintro σ Hb ⟨v2, v3, Hu, rfl, rfl, hud, sm, hur⟩
      rw [kvW_len, List.take_length] at hur
      refine ⟨upd_same, ?_⟩
      rw [upd_upd, upd_self hud]
      exact ⟨_, rfl, hQ r Hu sm nr hur⟩
def spLinks : Sp := fun vs H Q _ => ∃ (d : Addr) (kvs : List (Key × V)) (ls : List Link), vs = [.ref d] ∧ H d = some (.dK kvs) ∧ kvs.Perm (kvL ls) ∧ ls.Pairwise (fun a b => a.to < b.to) ∧ ls.length < 64 ∧
  ∀ r H', Same H H' → H r = none → H' r = some (.lst (ni ls.length :: ls.flatMap twoL)) → Q (.ref r) H'
theorem cal_links (T : Txt K mg c) (D : Dfn K mg "told_of_links" s_told_of_links) : Cal P w K mg base 1 "told_of_links" spLinks := by
  refine cal_of D sc_told_of_links (fun _ _ _ _ _ _ us hl => match us, hl with | [_], _ => rfl) (fun vs H Q E h => ?_) (fun f cdv A outer s H vs Q E hr h => ?_)
  · obtain ⟨_, _, _, rfl, _⟩ := h; rfl
  · have hu := hu_of hr
    obtain ⟨d, kvs, ls, rfl, hd, hp, hs, h64, hQ⟩ := h
    obtain ⟨ks, hks, hkp⟩ := links_keys hp
    refine ⟨_, (pss_cons (ps_set (i := 1) sc_told_of_links.nd rfl (Or.inl rfl) (pe_lst (pa_cons (pe_callB call_lenD (by rfl) T.m_len PySem.boot_len (pa_cons (pv 0) pa_nil)) pa_nil)))
    (pss_cons (ps_for PassesOwn.never rfl (pi_list (pe_callB (call_sortedDI rfl) (by rfl) T.m_sorted (by decide +kernel) (pa_cons (pv 0) pa_nil))) (pg_name (i := 2) sc_told_of_links.nd rfl (Or.inl rfl))
    (pss_one (ps_expr (pe_bm PySem.F.plainAttrs_list PySem.F.slot_list_extend PySem.F.type_list_extend mt_extend (pv 1) (pa_cons (pe_lst (pa_cons (pv 2) (pa_cons (pe_dget hu (pv 0) (pv 2) (fun _ _ => rfl)) pa_nil))) pa_nil)))))
    (pss_one (ps_ret (pv 1))))), ?_⟩
    refine ⟨_, rfl, d, _, rfl, hd, (by show 1 ≤ sizeLine; decide), fun r nr => ?_⟩
    have dr : d ≠ r := ne_of_none hd nr
    refine ⟨_, rfl, d, kvs, ks, rfl, .inl (upd_new hd nr), hks, (by rw [hkp.length_eq, List.length_map]; exact h64), fun ys sl perm rise nsl => ?_⟩
    have ey := links_sorted hs hkp perm rise
    have eys : ys.map V.int = ls.map fun y => ni y.to := by
      rw [ey, List.map_map]
      rfl
    rw [eys]
    have rsl : r ≠ sl := ne_of_none upd_same nsl
    refine ⟨sl, rfl, ⟨_, SqL.of upd_same⟩, for_list (K := K) (a := sl) (xs := ls.map fun y => ni y.to)
      (fun i σ H' => ∃ v2 : Option V, σ = [some (.ref d), some (.ref r), v2] ∧ H' sl = some (.lst (ls.map fun y => ni y.to)) ∧ Same H H' ∧ H' r = some (.lst (ni ls.length :: (ls.take i).flatMap twoL)))
      ⟨none, rfl, upd_same, same_new (same_new (Same.refl H) nr) nsl, ?_⟩ (fun i σ H' _ ⟨_, _, z, _⟩ => SqL.of z) ?_ ?_⟩
    · rw [upd_ne rsl, upd_same, List.take_zero, links_len hp]
      rfl
    · rintro i v σ H' hv ⟨v2, rfl, hsl, sm, hr'⟩
      rw [List.getElem?_map] at hv
      obtain ⟨y, hy, rfl⟩ := Option.map_eq_some_iff.mp hv
      have hd' := sm _ _ hd
      have ev := links_val hp hs y.to
      rw [find_at hs hy] at ev
      refine ⟨_, rfl, .inl ⟨rfl, _, SqL.of hr'⟩, _, rfl, _, rfl, _, rfl, d, _, rfl, ev ▸ DGet.k (k := Sum.inl (y.to : Int)) hd', (by show 2 ≤ sizeLine; decide), fun q nq => ?_⟩
      refine ⟨r, q, _, _, rfl, rfl, upd_new hr' nq, upd_same, ?_, ?_⟩
      · have a1 := flat_len twoL 2 (fun _ => Nat.le_refl 2) (ls.take i)
        have a2 : (ls.take i).length ≤ ls.length := by rw [List.length_take]; omega
        rw [List.length_cons]
        show _ + 2 ≤ sizeLine
        exact Nat.le_trans (show _ ≤ 20000 by omega) (by decide)
      · refine ⟨_, rfl, upd_keep (upd_new hsl nq) (Ne.symm rsl), same_mut (same_new sm nq) nr, ?_⟩
        rw [upd_same, take_next hy, flat_snoc]
        rfl
    · rintro σ H' ⟨v2, rfl, hsl, sm, hr'⟩
      rw [List.length_map, List.take_length] at hr'
      exact ⟨_, rfl, hQ r H' sm nr hr'⟩
/-- a process, number by number -/
def toldP (x : Proc) : List V := [ni x.node, ni (flag x.lives), ni x.why, ni (flag x.traps)] ++ (ni x.links.length :: x.links.flatMap twoL) ++ (ni x.watches.length :: x.watches.flatMap two) ++ (ni x.watched.length :: x.watched.flatMap two)
def spToldP (c : Cs) : Sp := fun vs H Q _ => ∃ (l : PL) (x : Proc) (n last : Nat), vs = [.ref l.a] ∧ PRep c H l x ∧ PWf n last x ∧ n ≤ 12 ∧ x.watches.length ≤ 5000 ∧ x.watched.length ≤ 5000 ∧
  ∀ r H', Same H H' → H r = none → H' r = some (.lst (toldP x)) → Q (.ref r) H'
theorem cal_toldP (T : Txt K mg c) (D : Dfn K mg "told_of_process" s_told_of_process) (c_one_if : Cal P w K mg base 1 "one_if" spOne) (c_told_of_links : Cal P w K mg base 1 "told_of_links" spLinks) (c_told_of_joined : Cal P w K mg base 1 "told_of_joined" spJoined) :
    Cal P w K mg base 2 "told_of_process" (spToldP c) := by
  refine cal_of D sc_told_of_process (fun _ _ _ _ _ _ us hl => match us, hl with | [_], _ => rfl) (fun vs H Q E h => ?_) (fun f cdv A outer s H vs Q E hr h => ?_)
  · obtain ⟨_, _, _, _, rfl, _⟩ := h; rfl
  · obtain ⟨l, x, n, last, rfl, Pr, Pw, hn, z1, z2, hQ⟩ := h
    obtain ⟨ex, hi⟩ := Pr.ins
    obtain ⟨kvs, hli, hp⟩ := Pr.li
    have h12 : x.links.length ≤ 12 := Nat.le_trans Pw.links_len hn
    refine ⟨_, (pss_cons (ps_set (i := 1) sc_told_of_process.nd rfl (Or.inl rfl) (pe_lst (pa_cons (pe_fld (pv 0) rfl) (pa_cons (pe_c c_one_if hr (by decide) rfl (pa_cons (pe_fld (pv 0) rfl) pa_nil)) (pa_cons (pe_fld (pv 0) rfl) (pa_cons (pe_fld (pv 0) rfl) pa_nil))))))
    (pss_cons (ps_expr (pe_bm PySem.F.plainAttrs_list PySem.F.slot_list_extend PySem.F.type_list_extend mt_extend (pv 1) (pa_cons (pe_c c_told_of_links hr (by decide) rfl (pa_cons (pe_fld (pv 0) rfl) pa_nil)) pa_nil)))
    (pss_cons (ps_expr (pe_bm PySem.F.plainAttrs_list PySem.F.slot_list_extend PySem.F.type_list_extend mt_extend (pv 1) (pa_cons (pe_c c_told_of_joined hr (by decide) rfl (pa_cons (pe_fld (pv 0) rfl) pa_nil)) pa_nil)))
    (pss_cons (ps_expr (pe_bm PySem.F.plainAttrs_list PySem.F.slot_list_extend PySem.F.type_list_extend mt_extend (pv 1) (pa_cons (pe_c c_told_of_joined hr (by decide) rfl (pa_cons (pe_fld (pv 0) rfl) pa_nil)) pa_nil)))
    (pss_one (ps_ret (pv 1))))))), ?_⟩
    refine ⟨_, rfl, l.a, c.p, ex, _, _, rfl, hi, T.clP, T.n_node, pF_node, ?_⟩
    refine ⟨_, rfl, l.a, c.p, ex, _, _, rfl, hi, T.clP, T.n_lives, pF_lives, x.lives, rfl, ?_⟩
    refine ⟨_, rfl, l.a, c.p, ex, _, _, rfl, hi, T.clP, T.n_why, pF_why, _, rfl, l.a, c.p, ex, _, _, rfl, hi, T.clP, T.n_traps, pF_traps, (by show 4 ≤ sizeLine; decide), fun r nr => ?_⟩
    have s0 : Same H (upd H r (.lst [ni x.node, ni (flag x.lives), ni x.why, ni (flag x.traps)])) := same_new (Same.refl H) nr
    refine ⟨_, rfl, .inl ⟨rfl, _, SqL.of upd_same⟩, _, rfl, l.a, c.p, ex, _, _, rfl, s0 _ _ hi, T.clP, T.n_links, pF_links, l.li, kvs, x.links, rfl, s0 _ _ hli, hp, Pw.lsort, by omega, fun r1 H1 sm1 nr1 hr1 => ?_⟩
    have hr1a := sm1 _ _ (upd_same (H := H) (a := r) (o := .lst [ni x.node, ni (flag x.lives), ni x.why, ni (flag x.traps)]))
    have f1 := flat_len twoL 2 (fun _ => Nat.le_refl 2) x.links
    have f2 := flat_len two 2 (fun _ => Nat.le_refl 2) x.watches
    have f3 := flat_len two 2 (fun _ => Nat.le_refl 2) x.watched
    have e1 : r1 ≠ r := new_ne nr1
    refine ⟨r, r1, _, _, rfl, rfl, hr1a, hr1, ?_, ?_⟩
    · simp only [List.length_cons, List.length_nil]
      exact Nat.le_trans (show _ ≤ 20000 by omega) (by decide)
    have s1 : Same H (upd H1 r (.lst ([ni x.node, ni (flag x.lives), ni x.why, ni (flag x.traps)] ++ (ni x.links.length :: x.links.flatMap twoL)))) := same_mut (s0.trans sm1) nr
    refine ⟨_, rfl, .inl ⟨rfl, _, SqL.of upd_same⟩, _, rfl, l.a, c.p, ex, _, _, rfl, s1 _ _ hi, T.clP, T.n_watches, pF_watches, l.wa, x.watches, rfl, s1 _ _ Pr.wa, z1, fun r2 H2 sm2 nr2 hr2 => ?_⟩
    have hr2a := sm2 _ _ (upd_same (H := H1) (a := r) (o := .lst ([ni x.node, ni (flag x.lives), ni x.why, ni (flag x.traps)] ++ (ni x.links.length :: x.links.flatMap twoL))))
    refine ⟨r, r2, _, _, rfl, rfl, hr2a, hr2, ?_, ?_⟩
    · simp only [List.length_append, List.length_cons, List.length_nil]
      exact Nat.le_trans (show _ ≤ 40000 by omega) (by decide)
    have s2 : Same H (upd H2 r (.lst (([ni x.node, ni (flag x.lives), ni x.why, ni (flag x.traps)] ++ (ni x.links.length :: x.links.flatMap twoL)) ++ (ni x.watches.length :: x.watches.flatMap two)))) := same_mut (s1.trans sm2) nr
    refine ⟨_, rfl, .inl ⟨rfl, _, SqL.of upd_same⟩, _, rfl, l.a, c.p, ex, _, _, rfl, s2 _ _ hi, T.clP, T.n_watched_by, pF_watched_by, l.wd, x.watched, rfl, s2 _ _ Pr.wd, z2, fun r3 H3 sm3 nr3 hr3 => ?_⟩
    have hr3a := sm3 _ _ (upd_same (H := H2) (a := r) (o := .lst (([ni x.node, ni (flag x.lives), ni x.why, ni (flag x.traps)] ++ (ni x.links.length :: x.links.flatMap twoL)) ++ (ni x.watches.length :: x.watches.flatMap two))))
    refine ⟨r, r3, _, _, rfl, rfl, hr3a, hr3, ?_, ?_⟩
    · simp only [List.length_append, List.length_cons, List.length_nil]
      exact Nat.le_trans (show _ ≤ 60000 by omega) (by decide)
    exact ⟨_, rfl, hQ r _ (same_mut (s2.trans sm3) nr) nr upd_same⟩
end
end PN
end
section
set_option maxRecDepth 100000
set_option maxHeartbeats 4000000
/-! The calls box, process, air, wires. -/
namespace PN
open PySem PySem.Spec PyProof.Rows L2
open Ha05 (Proc Fly Sig Link Note flag sigTold proc nodeOf conn wire setProc linkTo notes without withLink)
def threeN (n : Note) : List V := [ni n.what, ni n.who, ni n.n]
def fourF (y : Fly) : List V := [ni y.from_, ni y.to] ++ (sigTold y.what).map ni ++ [ni y.by_]
theorem sig_len (x : Sig) : (sigTold x).length ≤ 3 := by cases x <;> simp [sigTold]
theorem four_len (y : Fly) : (fourF y).length ≤ 6 := by
  have := sig_len y.what
  simp only [fourF, List.length_append, List.length_cons, List.length_nil, List.length_map]; omega
def prs : List (Nat × Nat) := [(1, 2), (1, 3), (2, 3)]
def wnum (s : Ha05.St) (ab : Nat × Nat) : List V := [ni (conn s ab.1 ab.2), ni (conn s ab.2 ab.1), ni (flag (wire s ab.1 ab.2).broken)]
theorem kvB_prs (s : Ha05.St) : kvB s = prs.map fun ab => (kk ab.1 ab.2, V.bl (wire s ab.1 ab.2).broken) := rfl
theorem prs_ok {ab : Nat × Nat} (h : ab ∈ prs) : (1 ≤ ab.1 ∧ ab.1 ≤ 3) ∧ (1 ≤ ab.2 ∧ ab.2 ≤ 3) ∧ ab.1 < ab.2 := by
  simp only [prs, List.mem_cons, List.not_mem_nil, or_false] at h
  rcases h with e | e | e <;> subst e <;> decide
section
variable {P : Program} {w : World} {K : PySem.W.Frag} {mg : Str → Option Value} {base : Heap} {c : Cs}
theorem Told.same {H H' : Hp} {L : Lay} {r : Ha05.St × List Int} {Q : VK} (h : Told c H L r Q) {s : Ha05.St} {xs : List V} {a : Addr} {z : List Int} (R : WRep c H L s) (sm : Same H H') (na : H a = none) (ha : H' a = some (.lst xs)) (e : r = (s, z)) (ex : xs = z.map V.int) : Q (.ref a) H' := by
  subst e
  subst ex
  exact h L H' a (R.keep (fun b _ o e => sm b o e) fun b xs e => sm b _ e) ⟨fun b o e _ => sm b o e, fun b hb => .inl hb, rfl⟩ (fun b o e _ => ne_of_none e na) (R.out na) ha
def spBox : Sp := fun vs H Q _ => ∃ (d : Addr) (us : List V) (l : List Note), vs = [.ref d] ∧ H d = some (.lst us) ∧ Paired (NoteAt H) l us ∧ l.length ≤ 5000 ∧
  ∀ r H', Same H H' → H r = none → H' r = some (.lst (ni l.length :: l.flatMap threeN)) → Q (.ref r) H'
theorem cal_tbox (T : Txt K mg c) (D : Dfn K mg "told_of_box" s_told_of_box) : Cal P w K mg base 1 "told_of_box" spBox := by
  refine cal_of D sc_told_of_box (fun _ _ _ _ _ _ us hl => match us, hl with | [_], _ => rfl) (fun vs H Q E h => ?_) (fun f cdv A outer s H vs Q E hr h => ?_)
  · obtain ⟨_, _, _, rfl, _⟩ := h; rfl
  · obtain ⟨d, us, l, rfl, hd, hv, hz, hQ⟩ := h
    have lu : us.length = l.length := (Paired.length hv).symm
    refine ⟨_, (pss_cons (ps_set (i := 1) sc_told_of_box.nd rfl (Or.inl rfl) (pe_lst (pa_cons (pe_callB call_len_seq (by rfl) T.m_len PySem.boot_len (pa_cons (pv 0) pa_nil)) pa_nil)))
    (pss_cons (ps_for PassesOwn.never rfl (pi_list (pv 0)) (pg_name (i := 2) sc_told_of_box.nd rfl (Or.inl rfl))
    (pss_one (ps_expr (pe_bm PySem.F.plainAttrs_list PySem.F.slot_list_extend PySem.F.type_list_extend mt_extT (pv 1) (pa_cons (pv 2) pa_nil)))))
    (pss_one (ps_ret (pv 1))))), ?_⟩
    refine ⟨_, rfl, d, _, rfl, .inl (SqL.of hd), (by show 1 ≤ sizeLine; decide), fun r nr => ?_⟩
    refine ⟨_, rfl, d, rfl, ⟨_, SqL.of (upd_new hd nr)⟩, for_list (K := K) (a := d) (xs := us)
      (fun i σ H' => ∃ v2 : Option V, σ = [some (.ref d), some (.ref r), v2] ∧ Same H H' ∧ H' r = some (.lst (ni l.length :: (l.take i).flatMap threeN)))
      ⟨none, rfl, same_new (Same.refl H) nr, ?_⟩ (fun i σ H' _ ⟨_, _, sm, _⟩ => SqL.of (sm _ _ hd)) ?_ ?_⟩
    · rw [upd_same, List.take_zero, lu]
      rfl
    · rintro i v σ H' hi ⟨v2, rfl, sm, hr'⟩
      have li : i < l.length := by
        rw [← lu]
        exact (List.getElem?_eq_some_iff.mp hi).1
      have hy : l[i]? = some l[i] := List.getElem?_eq_getElem li
      obtain ⟨v', hvi, t, rfl, ht⟩ := paired_get hv hy
      rw [hi] at hvi
      cases hvi
      refine ⟨_, rfl, .inl ⟨rfl, _, SqL.of hr'⟩, _, rfl, r, t, _, _, rfl, rfl, hr', sm _ _ ht, ?_, ?_⟩
      · have a1 := flat_len threeN 3 (fun _ => Nat.le_refl 3) (l.take i)
        have a2 : (l.take i).length ≤ l.length := by rw [List.length_take]; omega
        rw [List.length_cons]
        show _ + 3 ≤ sizeLine
        exact Nat.le_trans (show _ ≤ 20000 by omega) (by decide)
      · refine ⟨_, rfl, same_mut sm nr, ?_⟩
        rw [upd_same, take_next hy, flat_snoc]
        rfl
    · rintro σ H' ⟨v2, rfl, sm, hr'⟩
      rw [lu, List.take_length] at hr'
      exact ⟨_, rfl, hQ r H' sm nr hr'⟩
def spAir : Sp := fun vs H Q _ => ∃ (d : Addr) (us : List V) (l : List Fly), vs = [.ref d] ∧ H d = some (.lst us) ∧ Paired (FlyAt H) l us ∧ l.length ≤ 5000 ∧
  ∀ r H', Same H H' → H r = none → H' r = some (.lst (ni l.length :: l.flatMap fourF)) → Q (.ref r) H'
theorem cal_tair (T : Txt K mg c) (D : Dfn K mg "told_of_air" s_told_of_air) : Cal P w K mg base 1 "told_of_air" spAir := by
  refine cal_of D sc_told_of_air (fun _ _ _ _ _ _ us hl => match us, hl with | [_], _ => rfl) (fun vs H Q E h => ?_) (fun f cdv A outer s H vs Q E hr h => ?_)
  · obtain ⟨_, _, _, rfl, _⟩ := h; rfl
  · obtain ⟨d, us, l, rfl, hd, hv, hz, hQ⟩ := h
    have lu : us.length = l.length := (Paired.length hv).symm
    refine ⟨_, (pss_cons (ps_set (i := 1) sc_told_of_air.nd rfl (Or.inl rfl) (pe_lst (pa_cons (pe_callB call_len_seq (by rfl) T.m_len PySem.boot_len (pa_cons (pv 0) pa_nil)) pa_nil)))
    (pss_cons (ps_for PassesOwn.never rfl (pi_list (pv 0)) (pg_tup rfl (pgs_cons (pg_name (i := 2) sc_told_of_air.nd rfl (Or.inl rfl)) (pgs_cons (pg_name (i := 3) sc_told_of_air.nd rfl (Or.inl rfl)) (pgs_cons (pg_name (i := 4) sc_told_of_air.nd rfl (Or.inl rfl)) (pgs_cons (pg_name (i := 5) sc_told_of_air.nd rfl (Or.inl rfl)) pgs_nil)))))
    (pss_cons (ps_expr (pe_bm PySem.F.plainAttrs_list PySem.F.slot_list_extend PySem.F.type_list_extend mt_extend (pv 1) (pa_cons (pe_lst (pa_cons (pv 2) (pa_cons (pv 3) pa_nil))) pa_nil)))
    (pss_cons (ps_expr (pe_bm PySem.F.plainAttrs_list PySem.F.slot_list_extend PySem.F.type_list_extend mt_extT (pv 1) (pa_cons (pv 4) pa_nil)))
    (pss_one (ps_expr (pe_bm PySem.F.plainAttrs_list PySem.F.slot_list_append PySem.F.type_list_append mt_append (pv 1) (pa_cons (pv 5) pa_nil)))))))
    (pss_one (ps_ret (pv 1))))), ?_⟩
    refine ⟨_, rfl, d, _, rfl, .inl (SqL.of hd), (by show 1 ≤ sizeLine; decide), fun r nr => ?_⟩
    refine ⟨_, rfl, d, rfl, ⟨_, SqL.of (upd_new hd nr)⟩, for_list (K := K) (a := d) (xs := us)
      (fun i σ H' => ∃ v2 v3 v4 v5 : Option V, σ = [some (.ref d), some (.ref r), v2, v3, v4, v5] ∧ Same H H' ∧ H' r = some (.lst (ni l.length :: (l.take i).flatMap fourF)))
      ⟨none, none, none, none, rfl, same_new (Same.refl H) nr, ?_⟩ (fun i σ H' _ ⟨_, _, _, _, _, sm, _⟩ => SqL.of (sm _ _ hd)) ?_ ?_⟩
    · rw [upd_same, List.take_zero, lu]
      rfl
    · rintro i v σ H' hi ⟨v2, v3, v4, v5, rfl, sm, hr'⟩
      have li : i < l.length := by
        rw [← lu]
        exact (List.getElem?_eq_some_iff.mp hi).1
      have hy : l[i]? = some l[i] := List.getElem?_eq_getElem li
      obtain ⟨v', hvi, t, g, rfl, ht, hg⟩ := paired_get hv hy
      rw [hi] at hvi
      cases hvi
      have a1 := flat_len fourF 6 four_len (l.take i)
      have a2 : (l.take i).length ≤ l.length := by rw [List.length_take]; omega
      have a3 := sig_len l[i].what
      refine ⟨t, _, rfl, SqT.of (sm _ _ ht), rfl, _, _, rfl, _, _, rfl, _, _, rfl, _, _, rfl, rfl, ?_⟩
      refine ⟨_, rfl, .inl ⟨rfl, _, SqL.of hr'⟩, _, rfl, _, rfl, (by show 2 ≤ sizeLine; decide), fun q nq => ?_⟩
      refine ⟨r, q, _, _, rfl, rfl, upd_new hr' nq, upd_same, ?_, ?_⟩
      · rw [List.length_cons]
        show _ + 2 ≤ sizeLine
        exact Nat.le_trans (show _ ≤ 40000 by omega) (by decide)
      have sm1 : Same H (upd (upd H' q (.lst [ni l[i].from_, ni l[i].to])) r (.lst (ni l.length :: (l.take i).flatMap fourF ++ [ni l[i].from_, ni l[i].to]))) := same_mut (same_new sm nq) nr
      refine ⟨_, rfl, .inl ⟨rfl, _, SqL.of upd_same⟩, _, rfl, r, g, _, _, rfl, rfl, upd_same, sm1 _ _ hg, ?_, ?_⟩
      · simp only [List.length_append, List.length_cons, List.length_nil, List.length_map]
        exact Nat.le_trans (show _ ≤ 40000 by omega) (by decide)
      refine ⟨_, rfl, .inl ⟨rfl, _, SqL.of upd_same⟩, _, rfl, r, _, _, rfl, rfl, upd_same, ?_, ?_⟩
      · simp only [List.length_append, List.length_cons, List.length_nil, List.length_map]
        exact Nat.lt_of_le_of_lt (show _ ≤ 40000 by omega) (by decide)
      · refine ⟨_, _, _, _, rfl, same_mut (same_mut sm1 nr) nr, ?_⟩
        rw [upd_same, take_next hy, flat_snoc]
        simp only [fourF, List.cons_append, List.append_assoc, List.nil_append]
    · rintro σ H' ⟨v2, v3, v4, v5, rfl, sm, hr'⟩
      rw [lu, List.take_length] at hr'
      exact ⟨_, rfl, hQ r H' sm nr hr'⟩
def spWires (c : Cs) : Sp := fun vs H Q _ => ∃ (L : Lay) (s : Ha05.St), vs = [.ref L.w] ∧ WRep c H L s ∧
  ∀ r H', Same H H' → H r = none → H' r = some (.lst (prs.flatMap (wnum s))) → Q (.ref r) H'
theorem cal_twires (T : Txt K mg c) (D : Dfn K mg "told_of_wires" s_told_of_wires) (c_one_if : Cal P w K mg base 1 "one_if" spOne) : Cal P w K mg base 2 "told_of_wires" (spWires c) := by
  refine cal_of D sc_told_of_wires (fun _ _ _ _ _ _ us hl => match us, hl with | [_], _ => rfl) (fun vs H Q E h => ?_) (fun f cdv A outer s H vs Q E hr h => ?_)
  · obtain ⟨_, _, rfl, _⟩ := h; rfl
  · have hu := hu_of hr
    obtain ⟨L, st, rfl, R, hQ⟩ := h
    obtain ⟨dx, h1⟩ := R.ins
    obtain ⟨n1, n2, n3, n4, n5, n6, n7, n8, n9, n10⟩ := Lay.nd5 R.nd
    refine ⟨_, (pss_cons (ps_set (i := 1) sc_told_of_wires.nd rfl (Or.inl rfl) (pe_lst pa_nil))
    (pss_cons (ps_lock (ps_for PassesOwn.never rfl (pi_keys (pe_fld (pv 0) rfl)) (pg_tup rfl (pgs_cons (pg_name (i := 2) sc_told_of_wires.nd rfl (Or.inl rfl)) (pgs_cons (pg_name (i := 3) sc_told_of_wires.nd rfl (Or.inl rfl)) pgs_nil)))
    (pss_one (ps_expr (pe_bm PySem.F.plainAttrs_list PySem.F.slot_list_extend PySem.F.type_list_extend mt_extend (pv 1) (pa_cons (pe_lst (pa_cons (pe_dget hu (pe_fld (pv 0) rfl) (pe_tup (pa_cons (pv 2) (pa_cons (pv 3) pa_nil))) (fun _ _ => rfl)) (pa_cons (pe_dget hu (pe_fld (pv 0) rfl) (pe_tup (pa_cons (pv 3) (pa_cons (pv 2) pa_nil))) (fun _ _ => rfl)) (pa_cons (pe_c c_one_if hr (by decide) rfl (pa_cons (pe_dget hu (pe_fld (pv 0) rfl) (pe_tup (pa_cons (pv 2) (pa_cons (pv 3) pa_nil))) (fun _ _ => rfl)) pa_nil)) pa_nil)))) pa_nil))))))
    (pss_one (ps_ret (pv 1))))), ?_⟩
    refine ⟨Nat.zero_le _, fun r nr => ?_⟩
    have rb : r ≠ L.br := Ne.symm (ne_of_none R.br nr)
    refine ⟨L.br, _, upd_new R.br nr, trivial, fun od => ?_⟩
    refine ⟨_, rfl, L.w, c.w, dx, _, _, rfl, upd_keep (upd_new h1 nr) n4, T.clW, T.n_broken, wF_broken, L.br, od, rfl, .inr ⟨kvB st, upd_same, for_it walk_keysT
      (fun i σ H' => ∃ (v2 v3 : Option V) (Hu : Hp), σ = [some (.ref L.w), some (.ref r), v2, v3] ∧ H' = upd Hu L.br (.frz od (.dT (kvB st))) ∧ Hu L.br = some (.dT (kvB st)) ∧ Same H Hu ∧ Hu r = some (.lst ((prs.take i).flatMap (wnum st))))
      ⟨none, none, _, rfl, rfl, upd_new R.br nr, same_new (Same.refl H) nr, upd_same⟩ (fun i σ H' _ ⟨_, _, _, _, z, _⟩ => by rw [z]; exact upd_same) ?_ ?_⟩⟩
    · rintro i v σ Ha H' hlt ⟨v2, v3, Hu, rfl, rfl, hud, sm, hur⟩ ⟨rfl, k, v, q, hk, rfl, hq⟩
      rw [kvB_prs, List.getElem?_map] at hk
      obtain ⟨ab, hab, e⟩ := Option.map_eq_some_iff.mp hk
      cases e
      obtain ⟨oa, ob, lt⟩ := prs_ok (List.mem_of_getElem? hab)
      refine ⟨q, _, rfl, SqT.of hq, rfl, _, _, rfl, _, _, rfl, rfl, ?_⟩
      have hr1 := upd_keep (u := .frz od (.dT (kvB st))) hur rb
      have hw1 := upd_keep (u := .frz od (.dT (kvB st))) (sm _ _ h1) n4
      have hc1 := upd_keep (u := .frz od (.dT (kvB st))) (sm _ _ R.cn) n10
      have ne1 : ab.1 ≠ ab.2 := by omega
      refine ⟨_, rfl, .inl ⟨rfl, _, SqL.of hr1⟩, ?_⟩
      refine ⟨_, rfl, L.w, c.w, dx, _, _, rfl, hw1, T.clW, T.n_connections, wF_connections, _, rfl, _, rfl, (by show 2 ≤ sizeLine; decide), fun t1 m1 => ?_⟩
      refine ⟨L.cn, _, rfl, (valC (s := st) oa ob ne1) ▸ DGet.t (k := kk ab.1 ab.2) (upd_new hc1 m1) upd_same, ?_⟩
      refine ⟨_, rfl, L.w, c.w, dx, _, _, rfl, upd_new hw1 m1, T.clW, T.n_connections, wF_connections, _, rfl, _, rfl, (by show 2 ≤ sizeLine; decide), fun t2 m2 => ?_⟩
      refine ⟨L.cn, _, rfl, (valC (s := st) ob oa (Ne.symm ne1)) ▸ DGet.t (k := kk ab.2 ab.1) (upd_new (upd_new hc1 m1) m2) upd_same, ?_⟩
      refine ⟨_, rfl, L.w, c.w, dx, _, _, rfl, upd_new (upd_new hw1 m1) m2, T.clW, T.n_broken, wF_broken, _, rfl, _, rfl, (by show 2 ≤ sizeLine; decide), fun t3 m3 => ?_⟩
      have vb := valB (s := st) oa ob ne1
      rw [Nat.min_eq_left (by omega), Nat.max_eq_right (by omega)] at vb
      refine ⟨L.br, _, rfl, Or.inr ⟨kvB st, kk ab.1 ab.2, t3, .inr ⟨od, upd_new (upd_new (upd_new upd_same m1) m2) m3⟩, rfl, upd_same, vb.symm⟩, ?_⟩
      refine ⟨_, rfl, (by show 3 ≤ sizeLine; decide), fun u mu => ?_⟩
      refine ⟨r, u, _, _, rfl, rfl, upd_new (upd_new (upd_new (upd_new hr1 m1) m2) m3) mu, upd_same, ?_, ?_⟩
      · have a1 := flat_len (wnum st) 3 (fun _ => Nat.le_refl 3) (prs.take i)
        have a2 : (prs.take i).length ≤ 3 := by rw [List.length_take]; show min i 3 ≤ 3; omega
        show _ + 3 ≤ sizeLine
        exact Nat.le_trans (show _ ≤ 20000 by omega) (by decide)
      · have z1 : t1 ≠ L.br := new_ne m1
        have z2 : t2 ≠ L.br := new_ne (new_old m2)
        have z3 : t3 ≠ L.br := new_ne (new_old (new_old m3))
        have zu : u ≠ L.br := new_ne (new_old (new_old (new_old mu)))
        have w1 : Hu t1 = none := new_old m1
        have w2 : upd Hu t1 (.tup [ni ab.1, ni ab.2]) t2 = none := upd_gone (new_old (new_old m2)) (new_ne m2)
        have w3 : upd (upd Hu t1 (.tup [ni ab.1, ni ab.2])) t2 (.tup [ni ab.2, ni ab.1]) t3 = none := upd_gone (upd_gone (new_old (new_old (new_old m3))) (new_ne (new_old m3))) (new_ne m3)
        have w4 : upd (upd (upd Hu t1 (.tup [ni ab.1, ni ab.2])) t2 (.tup [ni ab.2, ni ab.1])) t3 (.tup [ni ab.1, ni ab.2]) u = none := upd_gone (upd_gone (upd_gone (new_old (new_old (new_old (new_old mu)))) (new_ne (new_old (new_old mu)))) (new_ne (new_old mu))) (new_ne mu)
        have sm1 := same_mut (o := .lst ((prs.take i).flatMap (wnum st) ++ wnum st ab)) (same_new (o := .lst (wnum st ab)) (same_new (o := .tup [ni ab.1, ni ab.2]) (same_new (o := .tup [ni ab.2, ni ab.1]) (same_new (o := .tup [ni ab.1, ni ab.2]) sm w1) w2) w3) w4) nr
        refine ⟨_, _, upd (upd (upd (upd (upd (upd Hu t1 (.tup [ni ab.1, ni ab.2])) t2 (.tup [ni ab.2, ni ab.1])) t3 (.tup [ni ab.1, ni ab.2])) u (.lst (wnum st ab))) r (.lst ((prs.take i).flatMap (wnum st) ++ wnum st ab))) L.br (.dT (kvB st)), rfl, ?_, upd_same, ?_, ?_⟩
        · funext b
          by_cases b1 : b = L.br
          · subst b1
            rw [upd_same]
            exact upd_keep (upd_new (upd_new (upd_new (upd_new upd_same m1) m2) m3) mu) (Ne.symm rb)
          · unfold upd
            simp only [if_neg b1]
            rfl
        · intro b o e
          by_cases b1 : b = L.br
          · rw [b1, R.br] at e
            rw [b1, upd_same]
            exact e
          · exact upd_keep (sm1 b o e) b1
        · rw [upd_ne rb, upd_same, take_next hab, flat_snoc]
    · rintro σ Hb ⟨v2, v3, Hu, rfl, rfl, hud, sm, hur⟩
      refine ⟨upd_same, ?_⟩
      rw [upd_upd, upd_self hud]
      exact ⟨_, rfl, hQ r Hu sm nr hur⟩
/-! ### the calls -/
theorem cal_box (T : Txt K mg c) (D : Dfn K mg "box" s_box) (m_World_has_process : Met P w K mg base 1 c.w "has_process" (spHas c)) (m_World_process : Met P w K mg base 1 c.w "process" (spProc c)) (c_told_of_box : Cal P w K mg base 1 "told_of_box" spBox) :
    Cal P w K mg base 2 "box" (spCall c 12) := by
  refine cal_of D sc_box (fun _ _ _ _ _ _ us hl => match us, hl with | [_, _], _ => rfl) (fun vs H Q E h => ?_) (fun f cdv A outer s H vs Q E hr h => ?_)
  · obtain ⟨L, st, args, cl, rfl, hc, _⟩ := h
    obtain ⟨n, rfl, rfl⟩ := in1 (f := .box) hc rfl (fun _ => rfl) (fun _ _ _ => rfl)
    rfl
  · obtain ⟨L, st, args, cl, rfl, hc, R, G, hQ⟩ := h
    obtain ⟨p, rfl, rfl⟩ := in1 (f := .box) hc rfl (fun _ => rfl) (fun _ _ _ => rfl)
    obtain ⟨dx, h1⟩ := R.ins
    have est : Ha05.step st (.box p) = (st, if Ha05.isThere st p = false then [-1] else Ha05.ints ((proc st p).box.length :: (proc st p).box.flatMap fun n => [n.what, n.who, n.n])) := rfl
    refine ⟨_, (pss_cons (ps_if (pt_not (pt_val (pe_mt m_World_has_process hr (by decide) (pv 0) (pa_cons (pv 1) pa_nil)))) (pss_one (ps_ret (pe_lst (pa_cons (pe_k T.k_NO_SUCH rfl) pa_nil)))) pss_nil)
    (pss_one (ps_ret (pe_c c_told_of_box hr (by decide) rfl (pa_cons (pe_fld (pe_mt m_World_process hr (by decide) (pv 0) (pa_cons (pv 1) pa_nil)) rfl) pa_nil))))), ?_⟩
    refine ⟨_, rfl, L.w, dx, _, rfl, h1, wF_m_has_process, _, rfl, L.w, dx, L.pr, _, _, p, rfl, h1, wF_processes, R.pr, _, rfl, ?_⟩
    rw [has_eq R]
    by_cases op : Ok st p
    · rw [isThere_iff.mpr op]
      refine if_no rfl ?_
      rw [if_neg (by rw [isThere_iff.mpr op]; simp)] at est
      obtain ⟨l, hl, Pr⟩ := R.prc op
      obtain ⟨ex, hi⟩ := Pr.ins
      obtain ⟨us, hb, hv⟩ := Pr.bx
      have hzp := sml_proc G.sz op
      refine ⟨_, rfl, L.w, dx, _, rfl, h1, wF_m_process, _, rfl, L.w, dx, L.pr, _, _, p, _, rfl, h1, wF_processes, R.pr, op.1, ps_get hl, ?_⟩
      refine ⟨l.a, c.p, ex, _, _, rfl, hi, T.clP, T.n_box, pF_box, l.bx, us, (proc st p).box, rfl, hb, hv, by omega, fun r H' sm nr hr' => ?_⟩
      refine hQ.same R sm nr hr' est ?_
      rw [← map_ni_int]
      simp only [List.map_cons, List.map_flatMap]
      rfl
    · rw [isThere_no.mpr op]
      refine if_yes rfl ?_
      rw [if_pos (isThere_no.mpr op)] at est
      exact ⟨(by show 1 ≤ sizeLine; decide), fun r hr => hQ.one R hr est rfl⟩
theorem cal_process (T : Txt K mg c) (D : Dfn K mg "process" s_process) (m_World_has_process : Met P w K mg base 1 c.w "has_process" (spHas c)) (m_World_process : Met P w K mg base 1 c.w "process" (spProc c)) (c_told_of_process : Cal P w K mg base 2 "told_of_process" (spToldP c)) :
    Cal P w K mg base 3 "process" (spCall c 13) := by
  refine cal_of D sc_process (fun _ _ _ _ _ _ us hl => match us, hl with | [_, _], _ => rfl) (fun vs H Q E h => ?_) (fun f cdv A outer s H vs Q E hr h => ?_)
  · obtain ⟨L, st, args, cl, rfl, hc, _⟩ := h
    obtain ⟨n, rfl, rfl⟩ := in1 (f := .process) hc rfl (fun _ => rfl) (fun _ _ _ => rfl)
    rfl
  · obtain ⟨L, st, args, cl, rfl, hc, R, G, hQ⟩ := h
    obtain ⟨p, rfl, rfl⟩ := in1 (f := .process) hc rfl (fun _ => rfl) (fun _ _ _ => rfl)
    obtain ⟨dx, h1⟩ := R.ins
    have est : Ha05.step st (.process p) = (st, if Ha05.isThere st p = false then [-1] else Ha05.ints ([(proc st p).node, flag (proc st p).lives, if (proc st p).lives = true then 0 else (proc st p).why, flag (proc st p).traps, (proc st p).links.length] ++ ((proc st p).links.flatMap fun y => [y.to, y.cutting]) ++ [(proc st p).watches.length] ++ ((proc st p).watches.flatMap fun y => [y.1, y.2]) ++ [(proc st p).watched.length] ++ (proc st p).watched.flatMap fun y => [y.1, y.2])) := rfl
    refine ⟨_, (pss_cons (ps_if (pt_not (pt_val (pe_mt m_World_has_process hr (by decide) (pv 0) (pa_cons (pv 1) pa_nil)))) (pss_one (ps_ret (pe_lst (pa_cons (pe_k T.k_NO_SUCH rfl) pa_nil)))) pss_nil)
    (pss_one (ps_ret (pe_c c_told_of_process hr (by decide) rfl (pa_cons (pe_mt m_World_process hr (by decide) (pv 0) (pa_cons (pv 1) pa_nil)) pa_nil))))), ?_⟩
    refine ⟨_, rfl, L.w, dx, _, rfl, h1, wF_m_has_process, _, rfl, L.w, dx, L.pr, _, _, p, rfl, h1, wF_processes, R.pr, _, rfl, ?_⟩
    rw [has_eq R]
    by_cases op : Ok st p
    · rw [isThere_iff.mpr op]
      refine if_no rfl ?_
      rw [if_neg (by rw [isThere_iff.mpr op]; simp)] at est
      obtain ⟨l, hl, Pr⟩ := R.prc op
      have hzp := sml_proc G.sz op
      have Pw := G.wf.pwf op
      refine ⟨_, rfl, L.w, dx, _, rfl, h1, wF_m_process, _, rfl, L.w, dx, L.pr, _, _, p, _, rfl, h1, wF_processes, R.pr, op.1, ps_get hl, ?_⟩
      refine ⟨l, proc st p, _, _, rfl, Pr, Pw, G.wf.few, by omega, by omega, fun r H' sm nr hr' => ?_⟩
      refine hQ.same R sm nr hr' est ?_
      have ew : (if (proc st p).lives = true then 0 else (proc st p).why) = (proc st p).why := by
        by_cases z : (proc st p).lives = true
        · rw [if_pos z, Pw.why z]
        · rw [if_neg z]
      rw [ew, ← map_ni_int]
      unfold toldP
      simp only [List.map_cons, List.map_append, List.map_flatMap, List.map_nil, List.cons_append, List.append_assoc, List.nil_append]
      rfl
    · rw [isThere_no.mpr op]
      refine if_yes rfl ?_
      rw [if_pos (isThere_no.mpr op)] at est
      exact ⟨(by show 1 ≤ sizeLine; decide), fun r hr => hQ.one R hr est rfl⟩
theorem in0 {j : Nat} {args : List Nat} {cl cl0 : Ha05.Call} (h : Ha05Neutral.callIn [j :: args] = some cl) (h0 : Ha05Neutral.callIn [[j]] = some cl0) (h1 : ∀ a t, Ha05Neutral.callIn [j :: a :: t] = none) : args = [] ∧ cl = cl0 := by
  rcases args with _ | ⟨a, t⟩
  · rw [h0] at h; exact ⟨rfl, (Option.some.inj h).symm⟩
  · rw [h1] at h; cases h
theorem cal_air (T : Txt K mg c) (D : Dfn K mg "air" s_air) (c_told_of_air : Cal P w K mg base 1 "told_of_air" spAir) : Cal P w K mg base 2 "air" (spCall c 14) := by
  refine cal_of D sc_air (fun _ _ _ _ _ _ us hl => match us, hl with | [_], _ => rfl) (fun vs H Q E h => ?_) (fun f cdv A outer s H vs Q E hr h => ?_)
  · obtain ⟨L, st, args, cl, rfl, hc, _⟩ := h
    obtain ⟨rfl, rfl⟩ := in0 (cl0 := .air) hc rfl (fun _ _ => rfl)
    rfl
  · obtain ⟨L, st, args, cl, rfl, hc, R, G, hQ⟩ := h
    obtain ⟨rfl, rfl⟩ := in0 (cl0 := .air) hc rfl (fun _ _ => rfl)
    obtain ⟨dx, h1⟩ := R.ins
    obtain ⟨us, ha, hv⟩ := R.ai
    refine ⟨_, (pss_one (ps_ret (pe_c c_told_of_air hr (by decide) rfl (pa_cons (pe_fld (pv 0) rfl) pa_nil)))), ?_⟩
    refine ⟨_, rfl, L.w, c.w, dx, _, _, rfl, h1, T.clW, T.n_air, wF_air, L.ai, us, st.air, rfl, ha, hv, Nat.le_trans G.sz.air (by decide), fun r H' sm nr hr' => ?_⟩
    refine hQ.same R sm nr hr' (s := st) (z := Ha05.ints (st.air.length :: st.air.flatMap fun y => [y.from_, y.to] ++ sigTold y.what ++ [y.by_])) rfl ?_
    rw [← map_ni_int]
    simp only [List.map_cons, List.map_flatMap, List.map_append, List.map_nil]
    rfl
theorem cal_wires (T : Txt K mg c) (D : Dfn K mg "wires" s_wires) (c_told_of_wires : Cal P w K mg base 2 "told_of_wires" (spWires c)) : Cal P w K mg base 3 "wires" (spCall c 18) := by
  refine cal_of D sc_wires (fun _ _ _ _ _ _ us hl => match us, hl with | [_], _ => rfl) (fun vs H Q E h => ?_) (fun f cdv A outer s H vs Q E hr h => ?_)
  · obtain ⟨L, st, args, cl, rfl, hc, _⟩ := h
    obtain ⟨rfl, rfl⟩ := in0 (cl0 := .wires) hc rfl (fun _ _ => rfl)
    rfl
  · obtain ⟨L, st, args, cl, rfl, hc, R, G, hQ⟩ := h
    obtain ⟨rfl, rfl⟩ := in0 (cl0 := .wires) hc rfl (fun _ _ => rfl)
    refine ⟨_, (pss_one (ps_ret (pe_c c_told_of_wires hr (by decide) rfl (pa_cons (pv 0) pa_nil)))), ?_⟩
    refine ⟨_, rfl, L, st, rfl, R, fun r H' sm nr hr' => ?_⟩
    refine hQ.same R sm nr hr' (s := st) (z := Ha05.ints (st.wires.flatMap fun w => [w.low, w.high, flag w.broken])) rfl ?_
    rw [← map_ni_int]
    obtain ⟨x, y, z, e⟩ := G.wf.wi
    have e1 : wire st 1 2 = x := by unfold Ha05.wire; rw [e]; rfl
    have e2 : wire st 1 3 = y := by unfold Ha05.wire; rw [e]; rfl
    have e3 : wire st 2 3 = z := by unfold Ha05.wire; rw [e]; rfl
    have e1' : wire st 2 1 = x := by unfold Ha05.wire; rw [e]; rfl
    have e2' : wire st 3 1 = y := by unfold Ha05.wire; rw [e]; rfl
    have e3' : wire st 3 2 = z := by unfold Ha05.wire; rw [e]; rfl
    rw [e]
    simp only [prs, wnum, List.flatMap_cons, List.flatMap_nil, Ha05.conn, e1, e2, e3, e1', e2', e3']
    rfl
end
end PN
end
section
set_option maxRecDepth 100000
set_option maxHeartbeats 4000000
/-! What a process loses with a connection. -/
namespace PN
open PySem PySem.Spec PyProof.Rows L2
open Ha05 (Proc Fly Sig Link Note flag sigTold proc nodeOf conn wire setProc linkTo notes without withLink)
section
variable {P : Program} {w : World} {K : PySem.W.Frag} {mg : Str → Option Value} {base : Heap} {c : Cs}
def spThose (c : Cs) : Sp := fun vs H Q _ => ∃ (L : Lay) (s : Ha05.St) (i : Nat) (pl : PL) (d : Addr) (l : List (Nat × Nat)) (b : Nat), vs = [.ref L.w, .ref d, ni b] ∧ WRep c H L s ∧ L.ps[i]? = some pl ∧ (d = pl.wa ∨ d = pl.wd) ∧ H d = some (.dK (kvW l)) ∧ l.length ≤ 5000 ∧ (∀ y ∈ l, Ok s y.2) ∧
  ∀ r H', Same H H' → H r = none → H' r = some (.lst ((lostK l fun y => nodeOf s y.2 == b).map ni)) → Q (.ref r) H'
theorem cal_those (T : Txt K mg c) (D : Dfn K mg "numbers_of_those_on" s_numbers_of_those_on) (m_World_process : Met P w K mg base 1 c.w "process" (spProc c)) : Cal P w K mg base 2 "numbers_of_those_on" (spThose c) := by
  refine cal_of D sc_numbers_of_those_on (fun _ _ _ _ _ _ us hl => match us, hl with | [_, _, _], _ => rfl) (fun vs H Q E h => ?_) (fun f cdv A outer s H vs Q E hr h => ?_)
  · obtain ⟨_, _, _, _, _, _, _, rfl, _⟩ := h; rfl
  · obtain ⟨L, st, i0, pl, d, l, b, rfl, R, hpl, hdd, hd, hz, hok, hQ⟩ := h
    have md : d ∈ pl.ads := by rcases hdd with e | e <;> rw [e] <;> simp [PL.ads]
    obtain ⟨a1, a2, a3, a4, a5⟩ := Lay.ndp R.nd hpl md
    have SR : ∀ {Hu : Hp} {o : HO}, Same H Hu → SRep c (upd Hu d o) L st := fun {Hu o} sm => by
      have R' : WRep c Hu L st := R.keep (fun b _ o e => sm b o e) fun b xs e => sm b _ e
      exact lock_srep R' hpl hdd
    refine ⟨_, (pss_one (ps_ret (pe_lock (pe_lc (own := [("number", 3), ("q", 4)]) (g := gTup K 2 (gCons (gName 3) (gCons (gName 4) gNil))) (tt := tTest (tOp rEq (tFld K (tMeth c.w "process" (spProc c) [] E0 (tVar 0) (tCons (tVar 4) tNil)) "node") (tVar 2))) rfl sc_numbers_of_those_on.nd (pi_items (pv 1)) (blkOk_by (own := [("number", 3), ("q", 4)]) (N := ["world", "joined", "node", "number", "q"]) (sc := defScope s_numbers_of_those_on) (by decide +kernel)) (fun _ _ _ _ _ => (pg_tup rfl (pgs_cons (pg_name (i := 3) sc_numbers_of_those_on.nd rfl (Or.inl rfl)) (pgs_cons (pg_name (i := 4) sc_numbers_of_those_on.nd rfl (Or.inl rfl)) pgs_nil)))) (fun _ _ _ _ _ => pts_one (pt_cmpR op_eq (pe_fld (pe_mt m_World_process hr (by decide) (pv 0) (pa_cons (pv 4) pa_nil)) rfl) (pv 2) (nomark _))) (fun _ _ _ _ _ => (pv 3)))))), ?_⟩
    refine ⟨d, _, hd, trivial, fun od => ?_⟩
    refine ⟨_, rfl, d, od, kvW l, rfl, upd_same, fun r nr => ?_⟩
    have nr' : H r = none := new_old nr
    have rd : r ≠ d := new_ne nr
    refine lc_it walk_items (fun i H' => ∃ Hu : Hp, H' = upd Hu d (.frz od (.dK (kvW l))) ∧ Hu d = some (.dK (kvW l)) ∧ Same H Hu ∧ Hu r = some (.lst ((lostK (l.take i) fun y => nodeOf st y.2 == b).map ni)))
      ⟨upd H r (.lst []), ?_, upd_new hd nr', same_new (Same.refl H) nr', ?_⟩ (fun i H' _ ⟨_, z, _⟩ => by rw [z]; exact upd_same) ?_ ?_
    · funext x
      unfold upd
      by_cases e1 : x = d
      · rw [e1]
        simp only [if_neg (Ne.symm rd), if_true]
      · simp only [if_neg e1]
    · rw [upd_same, List.take_zero]
      rfl
    · rintro i v Ha H' hlt ⟨Hu, rfl, hud, sm, hur⟩ ⟨Tt, vk, vq, rfl, nT, rfl, ek, eq⟩
      obtain ⟨y, hy, rfl, rfl⟩ := kvW_item ek eq
      have oy := hok y (List.mem_of_getElem? hy)
      have S1 := (SR (o := .frz od (.dK (kvW l))) sm).new (o := .tup [ni y.1, ni y.2]) nT
      obtain ⟨dw, hw⟩ := S1.ins
      obtain ⟨pl', ex, fs, hl', hi', hn'⟩ := S1.node oy
      have mT : Hu Tt = none := new_old nT
      have nTd : Tt ≠ d := new_ne nT
      have rT : r ≠ Tt := ne_of_none hur mT
      refine ⟨Tt, _, rfl, SqT.of upd_same, rfl, _, _, rfl, _, _, rfl, rfl, rfl, ?_⟩
      refine ⟨_, rfl, L.w, dw, _, rfl, hw, wF_m_process, _, rfl, L.w, dw, L.pr, _, _, y.2, _, rfl, hw, wF_processes, S1.pr, oy.1, ps_get hl', ?_⟩
      refine ⟨pl'.a, c.p, ex, fs, _, rfl, hi', T.clP, T.n_node, hn', _, rfl, rfl, _, rfl, ?_⟩
      have nx : ∀ zs, upd (upd (upd Hu d (.frz od (.dK (kvW l)))) Tt (.tup [ni y.1, ni y.2])) r (.lst zs) = upd (upd (upd Hu Tt (.tup [ni y.1, ni y.2])) r (.lst zs)) d (.frz od (.dK (kvW l))) := fun zs => by
        funext x
        unfold upd
        by_cases e1 : x = d
        · rw [e1]
          simp only [if_neg (Ne.symm rd), if_neg (Ne.symm nTd), if_true]
        · simp only [if_neg e1]
      have hr1 := upd_new (u := .tup [ni y.1, ni y.2]) (upd_keep (u := .frz od (.dK (kvW l))) hur rd) nT
      by_cases eb : nodeOf st y.2 = b
      · refine if_yes (decide_eq_true (congrArg ni eb)) ?_
        refine ⟨_, rfl, _, hr1, ?_, _, nx _, ?_, ?_, ?_⟩
        · have q1 := List.length_filter_le (fun y : Nat × Nat => nodeOf st y.2 == b) (l.take i)
          have q2 : (l.take i).length ≤ l.length := by rw [List.length_take]; omega
          rw [List.length_map]
          unfold lostK
          rw [List.length_map]
          exact Nat.lt_of_le_of_lt (show _ ≤ 5000 by omega) (by decide)
        · exact upd_keep (upd_new hud mT) (Ne.symm rd)
        · exact same_mut (same_new sm mT) nr'
        · rw [upd_same, take_next hy]
          unfold lostK
          rw [List.filter_append, List.filter_cons, if_pos (by simp [eb]), List.filter_nil, List.map_append, List.map_append]
          rfl
      · refine if_no (decide_eq_false fun z => eb (ni_inj z)) ?_
        have e3 : upd (upd Hu d (.frz od (.dK (kvW l)))) Tt (.tup [ni y.1, ni y.2]) = upd (upd Hu Tt (.tup [ni y.1, ni y.2])) d (.frz od (.dK (kvW l))) := by
          funext x
          unfold upd
          by_cases e1 : x = d
          · rw [e1]
            simp only [if_neg (Ne.symm nTd), if_true]
          · simp only [if_neg e1]
        refine ⟨_, e3, upd_new hud mT, same_new sm mT, ?_⟩
        rw [upd_ne rT, hur, take_next hy]
        unfold lostK
        rw [List.filter_append, List.filter_cons, if_neg (by simp [eb]), List.filter_nil, List.append_nil]
    · rintro H' ⟨Hu, rfl, hud, sm, hur⟩
      rw [kvW_len, List.take_length] at hur
      refine ⟨upd_same, ?_⟩
      rw [upd_upd, upd_self hud]
      exact hQ r Hu sm nr' hur
/-- the watched_by of those on b is gone -/
def spLoseD (c : Cs) : Sp := fun vs H Q _ => ∃ (L : Lay) (s : Ha05.St) (p b : Nat), vs = [.ref L.w, ni p, ni b] ∧ WRep c H L s ∧ Wf s ∧ Ok s p ∧ Sml 5000 s ∧ ((proc s p).watched.map (·.1)).Nodup ∧
  ∀ H', WRep c H' L (setProc s p { proc s p with watched := (proc s p).watched.filter fun y => !(nodeOf s y.2 == b) }) → Step H L H' L → Q .non H'
theorem cal_loseD (T : Txt K mg c) (D : Dfn K mg "lose_watched_by" s_lose_watched_by) (m_World_process : Met P w K mg base 1 c.w "process" (spProc c)) (c_numbers_of_those_on : Cal P w K mg base 2 "numbers_of_those_on" (spThose c)) :
    Cal P w K mg base 3 "lose_watched_by" (spLoseD c) := by
  refine cal_of D sc_lose_watched_by (fun _ _ _ _ _ _ us hl => match us, hl with | [_, _, _], _ => rfl) (fun vs H Q E h => ?_) (fun f cdv A outer s H vs Q E hr h => ?_)
  · obtain ⟨_, _, _, _, rfl, _⟩ := h; rfl
  · obtain ⟨L, st, p, b, rfl, R, W, op, hz, nd, hQ⟩ := h
    obtain ⟨dx, h1⟩ := R.ins
    obtain ⟨l, hl, Pr⟩ := R.prc op
    obtain ⟨ex, hi⟩ := Pr.ins
    have Pw := W.pwf op
    have hzp := sml_proc hz op
    refine ⟨_, (pss_cons (ps_set (i := 3) sc_lose_watched_by.nd rfl (Or.inl rfl) (pe_mt m_World_process hr (by decide) (pv 0) (pa_cons (pv 1) pa_nil)))
    (pss_cons (ps_set (i := 4) sc_lose_watched_by.nd rfl (Or.inl rfl) (pe_c c_numbers_of_those_on hr (by decide) rfl (pa_cons (pv 0) (pa_cons (pe_fld (pv 3) rfl) (pa_cons (pv 2) pa_nil)))))
    (pss_one (ps_for PassesOwn.never rfl (pi_list (pv 4)) (pg_name (i := 5) sc_lose_watched_by.nd rfl (Or.inl rfl))
    (pss_one (ps_expr (pe_dpop1 (pe_fld (pv 3) rfl) (pv 5) ⟨rfl, rfl, rfl, rfl⟩))))))), ?_⟩
    refine ⟨_, rfl, L.w, dx, _, rfl, h1, wF_m_process, _, rfl, L.w, dx, L.pr, _, _, p, _, rfl, h1, wF_processes, R.pr, op.1, ps_get hl, ?_⟩
    refine ⟨_, rfl, _, rfl, l.a, c.p, ex, _, _, rfl, hi, T.clP, T.n_watched_by, pF_watched_by, _, rfl, L, st, _, l, l.wd, (proc st p).watched, b, rfl, R, hl, .inr rfl, Pr.wd, by omega, Pw.dok, fun r H1 sm nr hr1 => ?_⟩
    obtain ⟨ks, eks⟩ : ∃ ks, ks = lostK (proc st p).watched fun y => nodeOf st y.2 == b := ⟨_, rfl⟩
    have nrL : r ∉ L.ads := R.out nr
    have R1 : WRep c H1 L st := R.keep (fun b _ o e => sm b o e) fun b xs e => sm b _ e
    rw [← eks] at hr1
    refine ⟨_, rfl, r, rfl, ⟨_, SqL.of hr1⟩, for_list (K := K) (a := r) (xs := ks.map ni)
      (fun i σ H' => ∃ v5 : Option V, σ = [some (.ref L.w), some (ni p), some (ni b), some (.ref l.a), some (.ref r), v5] ∧ H' r = some (.lst (ks.map ni)) ∧ WRep c H' L (setProc st p { proc st p with watched := rem (proc st p).watched (ks.take i) }) ∧ Step H L H' L)
      ⟨none, rfl, hr1, ?_, Step.same fun b o e _ => sm b o e⟩ (fun i σ H' _ ⟨_, _, z, _⟩ => SqL.of z) ?_ ?_⟩
    · rw [List.take_zero, rem_nil]
      show WRep c H1 L (setProc st p (proc st p))
      rw [set_proc op]
      exact R1
    · rintro i v σ H' hv ⟨v5, rfl, hr', R2, S2⟩
      rw [List.getElem?_map] at hv
      obtain ⟨k, hk, rfl⟩ := Option.map_eq_some_iff.mp hv
      have o2 : Ok (setProc st p { proc st p with watched := rem (proc st p).watched (ks.take i) }) p := ok_set.mpr op
      have e2 : proc (setProc st p { proc st p with watched := rem (proc st p).watched (ks.take i) }) p = { proc st p with watched := rem (proc st p).watched (ks.take i) } := proc_same op
      have P2 := R2.ps _ _ _ hl (proc_some o2)
      obtain ⟨ex2, hi2⟩ := P2.ins
      have hwd2 := P2.wd
      rw [e2] at hwd2
      rw [eks] at hk
      obtain ⟨z, hfz⟩ := rem_there nd hk
      rw [← eks] at hfz hk
      have ev := kvW_val k (rem (proc st p).watched (ks.take i))
      rw [hfz] at ev
      refine ⟨_, rfl, l.a, c.p, ex2, _, _, rfl, hi2, T.clP, T.n_watched_by, pF_watched_by, l.wd, rfl, .inl ⟨_, .inl hwd2⟩, _, rfl, _, Sum.inl (k : Int), _, hwd2, rfl, ev, ?_⟩
      rw [kvW_drop, ← rem_snoc, ← take_next hk]
      obtain ⟨R3, S3⟩ := R2.watched hl P2 (ws := rem (proc st p).watched (ks.take (i + 1)))
      refine ⟨_, rfl, ?_, ?_, S2.trans S3⟩
      · exact S3.frame r _ hr' nrL
      · rw [e2, set_set] at R3
        exact R3
    · rintro σ H' ⟨v5, rfl, hr', R2, S2⟩
      rw [List.length_map, List.take_length, eks, rem_all nd] at R2
      exact hQ H' R2 S2
def spLoseW (c : Cs) : Sp := fun vs H Q _ => ∃ (L : Lay) (s : Ha05.St) (p b : Nat), vs = [.ref L.w, ni p, ni b] ∧ WRep c H L s ∧ Wf s ∧ Ok s p ∧ Sml 5000 s ∧
  ∀ H', WRep c H' L (setProc s p { proc s p with
      watches := (proc s p).watches.filter fun y => !(nodeOf s y.2 == b)
      box := (proc s p).box ++ ((proc s p).watches.filter fun y => nodeOf s y.2 == b).map fun y => ⟨2, y.1, 4⟩ }) → Step H L H' L → Q .non H'
theorem cal_loseW (T : Txt K mg c) (D : Dfn K mg "lose_watches" s_lose_watches) (m_World_process : Met P w K mg base 1 c.w "process" (spProc c)) (c_numbers_of_those_on : Cal P w K mg base 2 "numbers_of_those_on" (spThose c)) :
    Cal P w K mg base 3 "lose_watches" (spLoseW c) := by
  refine cal_of D sc_lose_watches (fun _ _ _ _ _ _ us hl => match us, hl with | [_, _, _], _ => rfl) (fun vs H Q E h => ?_) (fun f cdv A outer s H vs Q E hr h => ?_)
  · obtain ⟨_, _, _, _, rfl, _⟩ := h; rfl
  · obtain ⟨L, st, p, b, rfl, R, W, op, hz, hQ⟩ := h
    obtain ⟨dx, h1⟩ := R.ins
    obtain ⟨l, hl, Pr⟩ := R.prc op
    obtain ⟨ex, hi⟩ := Pr.ins
    have Pw := W.pwf op
    have nd := Pw.wnd
    have hzp := sml_proc hz op
    refine ⟨_, (pss_cons (ps_set (i := 3) sc_lose_watches.nd rfl (Or.inl rfl) (pe_mt m_World_process hr (by decide) (pv 0) (pa_cons (pv 1) pa_nil)))
    (pss_cons (ps_set (i := 4) sc_lose_watches.nd rfl (Or.inl rfl) (pe_c c_numbers_of_those_on hr (by decide) rfl (pa_cons (pv 0) (pa_cons (pe_fld (pv 3) rfl) (pa_cons (pv 2) pa_nil)))))
    (pss_one (ps_for PassesOwn.never rfl (pi_list (pv 4)) (pg_name (i := 5) sc_lose_watches.nd rfl (Or.inl rfl))
    (pss_cons (ps_expr (pe_dpop1 (pe_fld (pv 3) rfl) (pv 5) ⟨rfl, rfl, rfl, rfl⟩))
    (pss_one (ps_expr (pe_bm PySem.F.plainAttrs_list PySem.F.slot_list_append PySem.F.type_list_append mt_append (pe_fld (pv 3) rfl) (pa_cons (pe_tup (pa_cons (pe_k T.k_WATCHED_ONE_ENDED rfl) (pa_cons (pv 5) (pa_cons (pe_k T.k_CONNECTION_LOST rfl) pa_nil)))) pa_nil))))))))), ?_⟩
    refine ⟨_, rfl, L.w, dx, _, rfl, h1, wF_m_process, _, rfl, L.w, dx, L.pr, _, _, p, _, rfl, h1, wF_processes, R.pr, op.1, ps_get hl, ?_⟩
    refine ⟨_, rfl, _, rfl, l.a, c.p, ex, _, _, rfl, hi, T.clP, T.n_watches, pF_watches, _, rfl, L, st, _, l, l.wa, (proc st p).watches, b, rfl, R, hl, .inl rfl, Pr.wa, by omega, (fun y hy => (Pw.wok y hy).1), fun r H1 sm nr hr1 => ?_⟩
    obtain ⟨ks, eks⟩ : ∃ ks, ks = lostK (proc st p).watches fun y => nodeOf st y.2 == b := ⟨_, rfl⟩
    have lks : ks.length ≤ 5000 := by
      rw [eks]
      unfold lostK
      rw [List.length_map]
      have := List.length_filter_le (fun y : Nat × Nat => nodeOf st y.2 == b) (proc st p).watches
      omega
    have nrL : r ∉ L.ads := R.out nr
    have R1 : WRep c H1 L st := R.keep (fun b _ o e => sm b o e) fun b xs e => sm b _ e
    rw [← eks] at hr1
    refine ⟨_, rfl, r, rfl, ⟨_, SqL.of hr1⟩, for_list (K := K) (a := r) (xs := ks.map ni)
      (fun i σ H' => ∃ v5 : Option V, σ = [some (.ref L.w), some (ni p), some (ni b), some (.ref l.a), some (.ref r), v5] ∧ H' r = some (.lst (ks.map ni)) ∧
        WRep c H' L (setProc st p { proc st p with watches := rem (proc st p).watches (ks.take i), box := (proc st p).box ++ (ks.take i).map fun k => ⟨2, k, 4⟩ }) ∧ Step H L H' L)
      ⟨none, rfl, hr1, ?_, Step.same fun b o e _ => sm b o e⟩ (fun i σ H' _ ⟨_, _, z, _⟩ => SqL.of z) ?_ ?_⟩
    · rw [List.take_zero, rem_nil, List.map_nil, List.append_nil]
      show WRep c H1 L (setProc st p (proc st p))
      rw [set_proc op]
      exact R1
    · rintro i v σ H' hv ⟨v5, rfl, hr', R2, S2⟩
      rw [List.getElem?_map] at hv
      obtain ⟨k, hk, rfl⟩ := Option.map_eq_some_iff.mp hv
      obtain ⟨x2, ex2⟩ : ∃ x2 : Proc, x2 = { proc st p with watches := rem (proc st p).watches (ks.take i), box := (proc st p).box ++ (ks.take i).map fun k => ⟨2, k, 4⟩ } := ⟨_, rfl⟩
      rw [← ex2] at R2
      have o2 : Ok (setProc st p x2) p := ok_set.mpr op
      have e2 : proc (setProc st p x2) p = x2 := proc_same op
      have P2 := R2.ps _ _ _ hl (proc_some o2)
      obtain ⟨ey2, hi2⟩ := P2.ins
      have hwa2 := P2.wa
      have ew2 : x2.watches = rem (proc st p).watches (ks.take i) := by rw [ex2]
      rw [e2, ew2] at hwa2
      rw [eks] at hk
      obtain ⟨z, hfz⟩ := rem_there nd hk
      rw [← eks] at hfz hk
      have ev := kvW_val k (rem (proc st p).watches (ks.take i))
      rw [hfz] at ev
      refine ⟨_, rfl, l.a, c.p, ey2, _, _, rfl, hi2, T.clP, T.n_watches, pF_watches, l.wa, rfl, .inl ⟨_, .inl hwa2⟩, _, rfl, _, Sum.inl (k : Int), _, hwa2, rfl, ev, ?_⟩
      rw [kvW_drop, ← rem_snoc, ← take_next hk]
      obtain ⟨R3, S3⟩ := R2.watching hl P2 (ws := rem (proc st p).watches (ks.take (i + 1)))
      rw [e2, set_set] at R3
      obtain ⟨x3, ex3⟩ : ∃ x3 : Proc, x3 = { x2 with watches := rem (proc st p).watches (ks.take (i + 1)) } := ⟨_, rfl⟩
      rw [← ex3] at R3
      have o3 : Ok (setProc st p x3) p := ok_set.mpr op
      have e3 : proc (setProc st p x3) p = x3 := proc_same op
      have P3 := R3.ps _ _ _ hl (proc_some o3)
      obtain ⟨ey3, hi3⟩ := P3.ins
      obtain ⟨us, hb3, hv3⟩ := P3.bx
      have lb : us.length < sizeLine := by
        rw [← Paired.length hv3, e3, ex3, ex2]
        simp only [List.length_append, List.length_map, List.length_take]
        exact Nat.lt_of_le_of_lt (show _ ≤ 20000 by omega) (by decide)
      refine ⟨_, rfl, l.a, c.p, ey3, _, _, rfl, hi3, T.clP, T.n_box, pF_box, .inl ⟨rfl, _, SqL.of hb3⟩, _, rfl, (by show 3 ≤ sizeLine; decide), fun t ht => ?_⟩
      refine ⟨l.bx, us, _, rfl, rfl, upd_new hb3 ht, lb, ?_⟩
      have R4 := R3.new (o := .tup [V.int 2, ni k, V.int 4]) ht
      have P4 := R4.ps _ _ _ hl (proc_some o3)
      obtain ⟨R5, S5⟩ := R4.note hl P4 (n := ⟨2, k, 4⟩) (upd_new hb3 ht) (notes_mono (tups_upd fun xs e => by rw [ht] at e; cases e) hv3) upd_same
      have S6 := (S3.trans (Step.new (L := L) (o := .tup [V.int 2, ni k, V.int 4]) ht)).trans S5
      refine ⟨_, rfl, S6.frame r _ hr' nrL, ?_, S2.trans S6⟩
      rw [e3, set_set] at R5
      have e5 : notes x3 ⟨2, k, 4⟩ = { proc st p with watches := rem (proc st p).watches (ks.take (i + 1)), box := (proc st p).box ++ (ks.take (i + 1)).map fun k => ⟨2, k, 4⟩ } := by
        rw [ex3, ex2, take_next hk, List.map_append, ← List.append_assoc]
        rfl
      rw [e5] at R5
      exact R5
    · rintro σ H' ⟨v5, rfl, hr', R2, S2⟩
      rw [List.length_map, List.take_length, eks, rem_all nd] at R2
      refine hQ H' ?_ S2
      unfold lostK at R2
      rw [List.map_map] at R2
      exact R2
end
end PN
end
section
set_option maxRecDepth 100000
set_option maxHeartbeats 4000000
/-! The links that are lost. -/
namespace PN
open PySem PySem.Spec PyProof.Rows L2
open Ha05 (Proc Fly Sig Link Note flag sigTold proc nodeOf conn wire setProc linkTo notes without withLink)
def setK (x : Proc) (ls : List Link) : Proc := { x with links := ls }
def hitL (p : Nat) (u : Ha05.St) (y : Link) : Ha05.St := if Ha05.lives u p = true then Ha05.hit u p ⟨1, y.to, 4⟩ else u
def farL (s : Ha05.St) (b : Nat) : Link → Bool := fun y => nodeOf s y.to == b
def heldL (s : Ha05.St) (p b : Nat) : List Link := ((proc s p).links.filter (farL s b)).filter fun y => y.cutting == 0
def cutL (b : Nat) (s : Ha05.St) (p : Nat) : Ha05.St := (heldL s p b).foldl (hitL p) (setProc s p { proc s p with links := (proc s p).links.filter fun y => !(farL s b y) })
theorem keep_hitL (p : Nat) (u : Ha05.St) (y : Link) : Keep u (hitL p u y) := by
  unfold hitL
  split
  · exact keep_hit u p _
  · exact Keep.refl u
theorem wf_hitL {p : Nat} {u : Ha05.St} {y : Link} (W : Wf u) (hp : Ok u p) : Wf (hitL p u y) := by
  unfold hitL
  split
  · exact wf_hit _ W hp
  · exact W
theorem sml_hitL {p n : Nat} {u : Ha05.St} {y : Link} (h : Sml n u) (hp : Ok u p) : Sml (n + 1) (hitL p u y) := by
  unfold hitL
  split
  · exact Nat.le_trans (tw_hit one_ok hp) (Nat.succ_le_succ h)
  · exact Nat.le_succ_of_le h
section
variable {P : Program} {w : World} {K : PySem.W.Frag} {mg : Str → Option Value} {base : Heap} {c : Cs}
def spLoseL (c : Cs) : Sp := fun vs H Q _ => ∃ (L : Lay) (s : Ha05.St) (p b : Nat), vs = [.ref L.w, ni p, ni b] ∧ WRep c H L s ∧ Wf s ∧ Ok s p ∧ Sml 3000 s ∧
  ∀ L' H', WRep c H' L' (cutL b s p) → Step H L H' L' → Q .non H'
theorem cal_loseL (T : Txt K mg c) (D : Dfn K mg "lose_links" s_lose_links) (m_World_process : Met P w K mg base 1 c.w "process" (spProc c)) (m_Process_link_holds : Met P w K mg base 1 c.p "link_holds" (spHolds c))
    (m_World_end_comes : Met P w K mg base 5 c.w "end_comes" (spEndComes c)) : Cal P w K mg base 6 "lose_links" (spLoseL c) := by
  refine cal_of D sc_lose_links (fun _ _ _ _ _ _ us hl => match us, hl with | [_, _, _], _ => rfl) (fun vs H Q E h => ?_) (fun f cdv A outer s H vs Q E hr h => ?_)
  · obtain ⟨_, _, _, _, rfl, _⟩ := h; rfl
  · have hu := hu_of hr
    obtain ⟨L, st, p, b, rfl, R, W, op, hz, hQ⟩ := h
    obtain ⟨dx, h1⟩ := R.ins
    obtain ⟨l, hl, Pr⟩ := R.prc op
    obtain ⟨ex, hi⟩ := Pr.ins
    obtain ⟨kvs, hli, hp⟩ := Pr.li
    have Pw := W.pwf op
    have hzp := sml_proc hz op
    obtain ⟨ks, hks, hkp⟩ := links_keys hp
    have l12 : (proc st p).links.length ≤ 12 := Nat.le_trans Pw.links_len W.few
    have h64 : ks.length < 64 := by
      rw [hkp.length_eq, List.length_map]
      omega
    obtain ⟨ll, ell⟩ : ∃ ll, ll = (proc st p).links.filter (farL st b) := ⟨_, rfl⟩
    obtain ⟨hh, ehh⟩ : ∃ hh, hh = ll.filter fun y => y.cutting == 0 := ⟨_, rfl⟩
    have lll : ll.length ≤ 12 := by
      rw [ell]
      exact Nat.le_trans (List.length_filter_le _ _) l12
    have lhh : hh.length ≤ 12 := by
      rw [ehh]
      exact Nat.le_trans (List.length_filter_le _ _) lll
    refine ⟨_, (pss_cons (ps_set (i := 3) sc_lose_links.nd rfl (Or.inr rfl) (pe_mt m_World_process hr (by decide) (pv 0) (pa_cons (pv 1) pa_nil)))
    (pss_cons (ps_setLc (i := 4) (own := [("q", 6)]) (g := gName 6) (tt := tTest (tOp rEq (tFld K (tMeth c.w "process" (spProc c) [] E0 (tVar 0) (tCons (tVar 6) tNil)) "node") (tVar 2))) rfl sc_lose_links.nd rfl rfl (sw_true rfl rfl rfl (by decide +kernel)) (pi_list (pe_callB (call_sortedDI rfl) (by rfl) T.m_sorted (by decide +kernel) (pa_cons (pe_fld (pv 3) rfl) pa_nil))) (blkOk_by (own := [("q", 6)]) (N := ["world", "p", "node", "process", "lost", "held", "q"]) (sc := defScope s_lose_links) (by decide +kernel)) (fun _ _ _ _ _ => (pg_name (i := 6) sc_lose_links.nd rfl (Or.inl rfl))) (fun _ _ _ _ _ => pts_one (pt_cmpR op_eq (pe_fld (pe_mt m_World_process hr (by decide) (pv 0) (pa_cons (pv 6) pa_nil)) rfl) (pv 2) (nomark _))) (fun _ _ _ _ _ => (pv 6)))
    (pss_cons (ps_setLc (i := 5) (own := [("q", 6)]) (g := gName 6) (tt := tB (tMeth c.p "link_holds" (spHolds c) [] E0 (tVar 3) (tCons (tVar 6) tNil))) rfl sc_lose_links.nd rfl rfl (sw_true rfl rfl rfl (by decide +kernel)) (pi_list (pv 4)) (blkOk_by (own := [("q", 6)]) (N := ["world", "p", "node", "process", "lost", "held", "q"]) (sc := defScope s_lose_links) (by decide +kernel)) (fun _ _ _ _ _ => (pg_name (i := 6) sc_lose_links.nd rfl (Or.inl rfl))) (fun _ _ _ _ _ => pts_one (pt_val (pe_mt m_Process_link_holds hr (by decide) (pv 3) (pa_cons (pv 6) pa_nil)))) (fun _ _ _ _ _ => (pv 6)))
    (pss_cons (ps_for PassesOwn.never rfl (pi_list (pv 4)) (pg_name (i := 6) sc_lose_links.nd rfl (Or.inl rfl))
    (pss_one (ps_expr (pe_dpop1 (pe_fld (pv 3) rfl) (pv 6) ⟨rfl, rfl, rfl, rfl⟩))))
    (pss_one (ps_for PassesOwn.never rfl (pi_list (pv 5)) (pg_name (i := 6) sc_lose_links.nd rfl (Or.inl rfl))
    (pss_one (ps_if (pt_val (pe_fld (pv 3) rfl)) (pss_one (ps_expr (pe_mt m_World_end_comes hr (by decide) (pv 0) (pa_cons (pv 1) (pa_cons (pe_k T.k_CONNECTION_LOST rfl) (pa_cons (pe_tup (pa_cons (pe_k T.k_LINKED_ONE_ENDED rfl) (pa_cons (pv 6) (pa_cons (pe_k T.k_CONNECTION_LOST rfl) pa_nil)))) pa_nil)))))) pss_nil)))))))), ?_⟩
    refine ⟨_, rfl, L.w, dx, _, rfl, h1, wF_m_process, _, rfl, L.w, dx, L.pr, _, _, p, _, rfl, h1, wF_processes, R.pr, op.1, ps_get hl, ?_⟩
    -- lost
    refine ⟨_, rfl, l.a, c.p, ex, _, _, rfl, hi, T.clP, T.n_links, pF_links, l.li, kvs, ks, rfl, .inl hli, hks, h64, fun ys sl perm rise nsl => ?_⟩
    have ey := links_sorted Pw.lsort hkp perm rise
    have eys : ys.map V.int = (proc st p).links.map fun y => ni y.to := by
      rw [ey, List.map_map]
      rfl
    rw [eys]
    refine ⟨sl, rfl, ⟨_, SqL.of upd_same⟩, fun r nr => ?_⟩
    have nrs : r ≠ sl := new_ne nr
    have nrH : H r = none := new_old nr
    refine lc_it (walk_list (K := K) (a := sl) (xs := (proc st p).links.map fun y => ni y.to)) (fun i H' => Same H H' ∧ H' sl = some (.lst ((proc st p).links.map fun y => ni y.to)) ∧ H' r = some (.lst ((((proc st p).links.take i).filter (farL st b)).map fun y => ni y.to)))
      ⟨same_new (same_new (Same.refl H) nsl) nr, upd_new upd_same nr, upd_same⟩ (fun i H' _ z => SqL.of z.2.1) ?_ ?_
    · rintro i v Ha H' hlt ⟨sm, hsl, hr1⟩ ⟨rfl, hv⟩
      rw [List.getElem?_map] at hv
      obtain ⟨y, hy, rfl⟩ := Option.map_eq_some_iff.mp hv
      have oy := Pw.lok y (List.mem_of_getElem? hy)
      have oy' : Ok st y.to := oy
      obtain ⟨m, hm, Pm⟩ := R.prc oy'
      obtain ⟨fx, hj⟩ := Pm.ins
      refine ⟨rfl, ?_⟩
      refine ⟨_, rfl, L.w, dx, _, rfl, sm _ _ h1, wF_m_process, _, rfl, L.w, dx, L.pr, _, _, y.to, _, rfl, sm _ _ h1, wF_processes, sm _ _ R.pr, oy.1, ps_get hm, ?_⟩
      refine ⟨m.a, c.p, fx, _, _, rfl, sm _ _ hj, T.clP, T.n_node, pF_node, _, rfl, rfl, _, rfl, ?_⟩
      by_cases eb : nodeOf st y.to = b
      · refine if_yes (decide_eq_true (congrArg ni eb)) ?_
        refine ⟨_, rfl, _, hr1, ?_, same_mut sm nrH, upd_keep hsl (Ne.symm nrs), ?_⟩
        · rw [List.length_map]
          have q1 := List.length_filter_le (farL st b) ((proc st p).links.take i)
          have q2 : ((proc st p).links.take i).length ≤ (proc st p).links.length := by rw [List.length_take]; omega
          exact Nat.lt_of_le_of_lt (show _ ≤ 5000 by omega) (by decide)
        · have : farL st b y = true := by simp [farL, eb]
          rw [upd_same, take_next hy, List.filter_append, List.filter_cons, if_pos this, List.filter_nil, List.map_append]
          rfl
      · refine if_no (decide_eq_false fun z => eb (ni_inj z)) ?_
        have : ¬ farL st b y = true := by simp [farL, eb]
        refine ⟨sm, hsl, ?_⟩
        rw [hr1, take_next hy, List.filter_append, List.filter_cons, if_neg this, List.filter_nil, List.append_nil]
    rintro H1 ⟨sm1, _, hr1⟩
    rw [List.length_map, List.take_length, ← ell] at hr1
    -- held
    refine ⟨_, rfl, r, rfl, ⟨_, SqL.of hr1⟩, fun r2 nr2 => ?_⟩
    have nr2H : H r2 = none := sm1.free nr2
    have nr2r : r2 ≠ r := fun e => by rw [e, hr1] at nr2; cases nr2
    refine lc_it (walk_list (K := K) (a := r) (xs := ll.map fun y => ni y.to)) (fun i H' => Same H H' ∧ H' r = some (.lst (ll.map fun y => ni y.to)) ∧ H' r2 = some (.lst (((ll.take i).filter fun y => y.cutting == 0).map fun y => ni y.to)))
      ⟨same_new sm1 nr2, upd_new hr1 nr2, upd_same⟩ (fun i H' _ z => SqL.of z.2.1) ?_ ?_
    · rintro i v Ha H' hlt ⟨sm, hr', hr2⟩ ⟨rfl, hv⟩
      rw [List.getElem?_map] at hv
      obtain ⟨y, hy, rfl⟩ := Option.map_eq_some_iff.mp hv
      have ymem : y ∈ (proc st p).links := by
        have := List.mem_of_getElem? hy
        rw [ell] at this
        exact (List.mem_filter.mp this).1
      obtain ⟨j, hj⟩ := List.getElem?_of_mem ymem
      refine ⟨rfl, ?_⟩
      refine ⟨_, rfl, l.a, ex, _, rfl, sm _ _ hi, pF_m_link_holds, _, rfl, l.a, ex, l.li, _, kvs, _, rfl, sm _ _ hi, pF_links, sm _ _ hli, int_val hp Pw.lsort _, _, rfl, ?_⟩
      have hb : decide (valV kvs (Sum.inl (y.to : Int)) = some (V.int 0)) = (y.cutting == 0) := by
        rw [holds_val hp Pw]
        unfold Ha05.linkTo
        rw [find_at Pw.lsort hj]
      cases e0 : (y.cutting == 0) with
      | true =>
        refine if_yes (hb.trans e0) ?_
        refine ⟨_, rfl, _, hr2, ?_, same_mut sm nr2H, upd_keep hr' (Ne.symm nr2r), ?_⟩
        · rw [List.length_map]
          have q1 := List.length_filter_le (fun y : Link => y.cutting == 0) (ll.take i)
          have q2 : (ll.take i).length ≤ ll.length := by rw [List.length_take]; omega
          exact Nat.lt_of_le_of_lt (show _ ≤ 5000 by omega) (by decide)
        · rw [upd_same, take_next hy, List.filter_append, List.filter_cons, if_pos e0, List.filter_nil, List.map_append]
          rfl
      | false =>
        refine if_no (hb.trans e0) ?_
        refine ⟨sm, hr', ?_⟩
        rw [hr2, take_next hy, List.filter_append, List.filter_cons, if_neg (by rw [e0]; exact Bool.false_ne_true), List.filter_nil, List.append_nil]
    rintro H2 ⟨sm2, hr', hr2⟩
    rw [List.length_map, List.take_length, ← ehh] at hr2
    have nrL : r ∉ L.ads := R.out nrH
    have nr2L : r2 ∉ L.ads := R.out nr2H
    have R2 : WRep c H2 L st := R.keep (fun b _ o e => sm2 b o e) fun b xs e => sm2 b _ e
    -- they are gone
    refine ⟨_, rfl, r, rfl, ⟨_, SqL.of hr'⟩, for_list (K := K) (a := r) (xs := ll.map fun y => ni y.to)
      (fun i σ H' => ∃ v6 : Option V, σ = [some (.ref L.w), some (ni p), some (ni b), some (.ref l.a), some (.ref r), some (.ref r2), v6] ∧ H' r = some (.lst (ll.map fun y => ni y.to)) ∧ H' r2 = some (.lst (hh.map fun y => ni y.to)) ∧
        WRep c H' L (setProc st p { proc st p with links := remL (proc st p).links ((ll.map (·.to)).take i) }) ∧ Step H L H' L)
      ⟨none, rfl, hr', hr2, ?_, Step.same fun b o e _ => sm2 b o e⟩ (fun i σ H' _ ⟨_, _, z, _⟩ => SqL.of z) ?_ ?_⟩
    · rw [List.take_zero, remL_nil]
      show WRep c H2 L (setProc st p (proc st p))
      rw [set_proc op]
      exact R2
    · rintro i v σ H' hv ⟨v6, rfl, hra, hrb, R3, S3⟩
      rw [List.getElem?_map] at hv
      obtain ⟨y, hy, rfl⟩ := Option.map_eq_some_iff.mp hv
      obtain ⟨x3, ex3⟩ : ∃ x3 : Proc, x3 = { proc st p with links := remL (proc st p).links ((ll.map (·.to)).take i) } := ⟨_, rfl⟩
      rw [← ex3] at R3
      have o3 : Ok (setProc st p x3) p := ok_set.mpr op
      have e3 : proc (setProc st p x3) p = x3 := proc_same op
      have el3 : x3.links = remL (proc st p).links ((ll.map (·.to)).take i) := by rw [ex3]
      have P3 := R3.ps _ _ _ hl (proc_some o3)
      obtain ⟨ey3, hi3⟩ := P3.ins
      obtain ⟨kvs3, hli3, hp3⟩ := P3.li
      have hp3' : kvs3.Perm (kvL (remL (proc st p).links ((ll.map (·.to)).take i))) := by
        rw [e3, el3] at hp3
        exact hp3
      have ev := links_val hp3' (remL_sorted Pw.lsort) y.to
      have hy' : ((proc st p).links.filter (farL st b))[i]? = some y := by rw [← ell]; exact hy
      have ft := remL_there Pw.lsort hy'
      rw [← ell] at ft
      rw [ft] at ev
      refine ⟨_, rfl, l.a, c.p, ey3, _, _, rfl, hi3, T.clP, T.n_links, pF_links, l.li, rfl, .inl ⟨_, .inl hli3⟩, _, rfl, kvs3, Sum.inl (y.to : Int), _, hli3, rfl, ev, ?_⟩
      obtain ⟨R4, S4⟩ := R3.linked hl P3 (links_drop hp3' y.to)
      refine ⟨_, rfl, S4.frame r _ hra nrL, S4.frame r2 _ hrb nr2L, ?_, S3.trans S4⟩
      have hk : (ll.map (·.to))[i]? = some y.to := by rw [List.getElem?_map, hy]; rfl
      rw [take_next hk, remL_snoc]
      rw [e3, set_set, ex3] at R4
      exact R4
    · rintro σ H3 ⟨v6, rfl, hra, hrb, R3, S3⟩
      rw [List.length_map] at R3
      have e4 : (ll.map (·.to)).take ll.length = ll.map (·.to) := by
        have : (ll.map (·.to)).length = ll.length := List.length_map _
        rw [← this, List.take_length]
      rw [e4, ell, remL_all Pw.lsort] at R3
      obtain ⟨t0, et0⟩ : ∃ t0, t0 = setProc st p { proc st p with links := (proc st p).links.filter fun y => !(farL st b y) } := ⟨_, rfl⟩
      have R3 : WRep c H3 L t0 := by rw [et0]; exact R3
      have W0 : Wf t0 := by rw [et0]; exact wf_set W (pwf_links Pw)
      have o0 : Ok t0 p := by rw [et0]; exact ok_set.mpr op
      have z0 : Sml 3000 t0 := by
        have q := tw_set (w := one) (s := st) (x := setK (proc st p) ((proc st p).links.filter fun y => !(farL st b y))) op
        rw [pw_one, pw_one] at q
        have q2 := List.length_filter_le (fun y => !(farL st b y)) (proc st p).links
        have q3 : tw one st ≤ 3000 := hz
        rw [et0]
        show tw one (setProc st p (setK (proc st p) ((proc st p).links.filter fun y => !(farL st b y)))) ≤ 3000
        simp only [setK] at q ⊢
        omega
      -- the ends that come
      refine ⟨_, rfl, r2, rfl, ⟨_, SqL.of hrb⟩, for_list (K := K) (a := r2) (xs := hh.map fun y => ni y.to)
        (fun i σ H' => ∃ (v6 : Option V) (L' : Lay), σ = [some (.ref L.w), some (ni p), some (ni b), some (.ref l.a), some (.ref r), some (.ref r2), v6] ∧ WRep c H' L' ((hh.take i).foldl (hitL p) t0) ∧ Step H3 L H' L' ∧ Wf ((hh.take i).foldl (hitL p) t0) ∧ Sml (3000 + i) ((hh.take i).foldl (hitL p) t0) ∧ Ok ((hh.take i).foldl (hitL p) t0) p)
        ⟨v6, L, rfl, ?_, Step.refl H3 L, ?_, ?_, ?_⟩ (fun i σ H' _ ⟨_, _, _, _, S, _⟩ => SqL.of (S.frame r2 _ hrb nr2L)) ?_ ?_⟩
      · rw [List.take_zero]; exact R3
      · rw [List.take_zero]; exact W0
      · rw [List.take_zero]; exact z0
      · rw [List.take_zero]; exact o0
      · rintro i v σ H' hv ⟨v6, L', rfl, R5, S5, W5, z5, o5⟩
        rw [List.getElem?_map] at hv
        obtain ⟨y, hy, rfl⟩ := Option.map_eq_some_iff.mp hv
        have li : i < hh.length := (List.getElem?_eq_some_iff.mp hy).1
        obtain ⟨l', hl', ea⟩ := S5.inst hl
        have P5 := R5.ps _ _ _ hl' (proc_some o5)
        obtain ⟨ex5, hi5⟩ := P5.ins
        rw [ea] at hi5
        have en : (hh.take (i + 1)).foldl (hitL p) t0 = hitL p ((hh.take i).foldl (hitL p) t0) y := by
          rw [take_next hy, List.foldl_append]
          rfl
        refine ⟨_, rfl, l.a, c.p, ex5, _, _, rfl, hi5, T.clP, T.n_lives, pF_lives, _, rfl, ?_⟩
        have elv : Ha05.lives ((hh.take i).foldl (hitL p) t0) p = (proc ((hh.take i).foldl (hitL p) t0) p).lives := by
          unfold Ha05.lives
          rw [isThere_iff.mpr o5]
          rfl
        cases e0 : (proc ((hh.take i).foldl (hitL p) t0) p).lives with
        | true =>
          refine if_yes rfl ?_
          obtain ⟨dw, hw⟩ := R5.ins
          rw [← S5.w]
          refine ⟨_, rfl, L'.w, dw, _, rfl, hw, wF_m_end_comes, _, rfl, _, rfl, (by show 3 ≤ sizeLine; decide), fun t ht => ?_⟩
          refine ⟨L', _, p, t, ⟨1, y.to, 4⟩, rfl, upd_same, R5.new ht, W5, o5, z5.mono (by omega), fun L'' H'' R6 S6 => ?_⟩
          have eh : Ha05.hit ((hh.take i).foldl (hitL p) t0) p ⟨1, y.to, 4⟩ = (hh.take (i + 1)).foldl (hitL p) t0 := by
            rw [en]
            exact (if_pos (elv.trans e0)).symm
          rw [eh] at R6
          refine ⟨_, L'', rfl, R6, (S5.trans (Step.new ht)).trans S6, ?_, ?_, ?_⟩
          · rw [en]; exact wf_hitL W5 o5
          · rw [en]; exact sml_hitL z5 o5
          · rw [en]; exact (keep_hitL p _ y).ok.mpr o5
        | false =>
          refine if_no rfl ?_
          have eh : (hh.take (i + 1)).foldl (hitL p) t0 = (hh.take i).foldl (hitL p) t0 := by
            rw [en]
            exact if_neg (by rw [elv, e0]; exact Bool.false_ne_true)
          refine ⟨_, L', rfl, ?_, S5, ?_, ?_, ?_⟩
          · rw [eh]; exact R5
          · rw [eh]; exact W5
          · rw [eh]; exact z5.mono (Nat.le_succ _)
          · rw [eh]; exact o5
      · rintro σ H' ⟨v6, L', rfl, R5, S5, W5, z5, o5⟩
        rw [List.length_map, List.take_length] at R5
        refine hQ L' H' ?_ (S3.trans S5)
        rw [ehh, ell, et0] at R5
        exact R5
end
end PN
end
section
set_option maxRecDepth 100000
set_option maxHeartbeats 4000000
/-! A node notices a loss. -/
namespace PN
open PySem PySem.Spec PyProof.Rows L2
open Ha05 (Proc Fly Sig Link Note flag sigTold proc nodeOf conn wire setProc linkTo notes without withLink setWire)
def setConn (s : Ha05.St) (a b v : Nat) : Ha05.St := setWire s a b (if a < b then { wire s a b with low := v } else { wire s a b with high := v })
def setBrk (s : Ha05.St) (a b : Nat) (v : Bool) : Ha05.St := setWire s a b { wire s a b with broken := v }
theorem pairs {a b : Nat} (h : Ha05.isPair a b = true) : (a = 1 ∧ b = 2) ∨ (a = 2 ∧ b = 1) ∨ (a = 1 ∧ b = 3) ∨ (a = 3 ∧ b = 1) ∨ (a = 2 ∧ b = 3) ∨ (a = 3 ∧ b = 2) := by
  unfold Ha05.isPair at h
  simp at h
  omega
theorem pair_ok {a b : Nat} (h : Ha05.isPair a b = true) : (1 ≤ a ∧ a ≤ 3) ∧ (1 ≤ b ∧ b ≤ 3) ∧ a ≠ b := by
  unfold Ha05.isPair at h
  simp at h
  omega
theorem kvC_put {s : Ha05.St} {a b v : Nat} (h : Ha05.isPair a b = true) (hw : ∃ x y z, s.wires = [x, y, z]) : putK (kvC s) (kk a b) (ni v) = kvC (setConn s a b v) ∧ kvB (setConn s a b v) = kvB s := by
  obtain ⟨procs, air, last, wires, conns⟩ := s
  obtain ⟨x, y, z, e⟩ := hw
  subst e
  rcases pairs h with ⟨rfl, rfl⟩ | ⟨rfl, rfl⟩ | ⟨rfl, rfl⟩ | ⟨rfl, rfl⟩ | ⟨rfl, rfl⟩ | ⟨rfl, rfl⟩ <;> exact ⟨rfl, rfl⟩
theorem kvB_put {s : Ha05.St} {a b : Nat} {v : Bool} (h : Ha05.isPair a b = true) (hw : ∃ x y z, s.wires = [x, y, z]) : putK (kvB s) (kk (min a b) (max a b)) (.bl v) = kvB (setBrk s a b v) ∧ kvC (setBrk s a b v) = kvC s := by
  obtain ⟨procs, air, last, wires, conns⟩ := s
  obtain ⟨x, y, z, e⟩ := hw
  subst e
  rcases pairs h with ⟨rfl, rfl⟩ | ⟨rfl, rfl⟩ | ⟨rfl, rfl⟩ | ⟨rfl, rfl⟩ | ⟨rfl, rfl⟩ | ⟨rfl, rfl⟩ <;> exact ⟨rfl, rfl⟩
section
variable {P : Program} {w : World} {K : PySem.W.Frag} {mg : Str → Option Value} {base : Heap} {c : Cs}
theorem rep_conn {H : Hp} {L : Lay} {s : Ha05.St} (R : WRep c H L s) (W : Wf s) {a b v : Nat} (h : Ha05.isPair a b = true) :
    WRep c (upd H L.cn (.dT (putK (kvC s) (kk a b) (ni v)))) L (setConn s a b v) ∧ Step H L (upd H L.cn (.dT (putK (kvC s) (kk a b) (ni v)))) L := by
  obtain ⟨e1, e2⟩ := kvC_put (v := v) h W.wi
  obtain ⟨n1, n2, n3, n4, n5, n6, n7, n8, n9, n10⟩ := Lay.nd5 R.nd
  refine ⟨R.wir (ws := (setConn s a b v).wires) (fun b o e n _ => upd_keep e n) ?_ ?_, Step.same fun b o e n => upd_off mem_cn n e⟩
  · rw [upd_same, e1]; rfl
  · rw [upd_ne (Ne.symm n10), R.br]
    exact congrArg _ (congrArg _ e2.symm)
theorem rep_brk {H : Hp} {L : Lay} {s : Ha05.St} (R : WRep c H L s) (W : Wf s) {a b : Nat} {v : Bool} (h : Ha05.isPair a b = true) :
    WRep c (upd H L.br (.dT (putK (kvB s) (kk (min a b) (max a b)) (.bl v)))) L (setBrk s a b v) ∧ Step H L (upd H L.br (.dT (putK (kvB s) (kk (min a b) (max a b)) (.bl v)))) L := by
  obtain ⟨e1, e2⟩ := kvB_put (v := v) h W.wi
  obtain ⟨n1, n2, n3, n4, n5, n6, n7, n8, n9, n10⟩ := Lay.nd5 R.nd
  refine ⟨R.wir (ws := (setBrk s a b v).wires) (fun b o e _ n => upd_keep e n) ?_ ?_, Step.same fun b o e n => upd_off mem_br n e⟩
  · rw [upd_ne n10, R.cn]
    exact congrArg _ (congrArg _ e2.symm)
  · rw [upd_same, e1]; rfl
/-- what one process loses, in the program's order -/
theorem cutOff_eq {b p : Nat} {s : Ha05.St} (op : Ok s p) (hl : (proc s p).lives = true) :
    cutL b (setProc (setProc s p (setD (proc s p) ((proc s p).watched.filter fun y => !(nodeOf s y.2 == b)))) p { setD (proc s p) ((proc s p).watched.filter fun y => !(nodeOf s y.2 == b)) with
      watches := (proc s p).watches.filter fun y => !(nodeOf s y.2 == b)
      box := (proc s p).box ++ ((proc s p).watches.filter fun y => nodeOf s y.2 == b).map fun y => ⟨2, y.1, 4⟩ }) p = Ha05.cutOff b s p := by
  have hlv : Ha05.lives s p = true := by unfold Ha05.lives; rw [isThere_iff.mpr op, hl]; rfl
  obtain ⟨x2, ex2⟩ : ∃ x2 : Proc, x2 = { setD (proc s p) ((proc s p).watched.filter fun y => !(nodeOf s y.2 == b)) with
      watches := (proc s p).watches.filter fun y => !(nodeOf s y.2 == b)
      box := (proc s p).box ++ ((proc s p).watches.filter fun y => nodeOf s y.2 == b).map fun y => ⟨2, y.1, 4⟩ } := ⟨_, rfl⟩
  rw [← ex2, set_set]
  have en : ∀ q, nodeOf (setProc s p x2) q = nodeOf s q := fun q => node_set (by rw [ex2]; rfl)
  have ep : proc (setProc s p x2) p = x2 := proc_same op
  have ef : farL (setProc s p x2) b = farL s b := by
    funext y
    unfold farL
    rw [en]
  unfold cutL heldL
  rw [ep, ef, set_set]
  unfold Ha05.cutOff
  rw [if_neg (by rw [hlv]; simp)]
  rw [ex2]
  rfl
def spNotice (c : Cs) : Sp := fun vs H Q _ => ∃ (L : Lay) (s : Ha05.St) (a b : Nat), vs = [.ref L.w, ni a, ni b] ∧ WRep c H L s ∧ Good 1000 s ∧ Ha05.isPair a b = true ∧ ∀ L' H', WRep c H' L' (Ha05.notices s a b) → Step H L H' L' → Q .non H'
def those (s : Ha05.St) (a i : Nat) : List Nat := ((List.range i).map fun j => j + 1).filter fun p => nodeOf s p == a
theorem those_next (s : Ha05.St) (a i : Nat) : those s a (i + 1) = those s a i ++ (if nodeOf s (i + 1) == a then [i + 1] else []) := by
  unfold those
  rw [List.range_succ, List.map_append, List.filter_append]
  congr 1
  simp only [List.map_cons, List.map_nil, List.filter_cons, List.filter_nil]
theorem cal_noticeLoss (T : Txt K mg c) (D : Dfn K mg "notice_loss" s_notice_loss) (m_World_process : Met P w K mg base 1 c.w "process" (spProc c)) (c_lose_watched_by : Cal P w K mg base 3 "lose_watched_by" (spLoseD c))
    (c_lose_watches : Cal P w K mg base 3 "lose_watches" (spLoseW c)) (c_lose_links : Cal P w K mg base 6 "lose_links" (spLoseL c)) : Cal P w K mg base 7 "notice_loss" (spNotice c) := by
  refine cal_of D sc_notice_loss (fun _ _ _ _ _ _ us hl => match us, hl with | [_, _, _], _ => rfl) (fun vs H Q E h => ?_) (fun f cdv A outer s H vs Q E hr h => ?_)
  · obtain ⟨_, _, _, _, rfl, _⟩ := h; rfl
  · have hu := hu_of hr
    obtain ⟨L, st, a, b, rfl, R, G, hab, hQ⟩ := h
    obtain ⟨dx, h1⟩ := R.ins
    refine ⟨_, (pss_cons (ps_dput hu (pe_fld (pv 0) rfl) (pe_tup (pa_cons (pv 1) (pa_cons (pv 2) pa_nil))) (pe_k T.k_NO_CONNECTION rfl) rfl)
    (pss_one (ps_for PassesOwn.never rfl (pi_range2 (by rfl) T.m_range (pa_cons pe_int (pa_cons (pe_op op_add (pe_callB call_len_seq (by rfl) T.m_len PySem.boot_len (pa_cons (pe_fld (pv 0) rfl) pa_nil)) pe_int) pa_nil))) (pg_name (i := 3) sc_notice_loss.nd rfl (Or.inl rfl))
    (pss_cons (ps_set (i := 4) sc_notice_loss.nd rfl (Or.inl rfl) (pe_mt m_World_process hr (by decide) (pv 0) (pa_cons (pv 3) pa_nil)))
    (pss_one (ps_if (PW.pt (pw_and (pt_cmpR op_eq (pe_fld (pv 4) rfl) (pv 1) (nomark _)) (pw_and1 (pt_val (pe_fld (pv 4) rfl))))) (pss_cons (ps_expr (pe_c c_lose_watched_by hr (by decide) rfl (pa_cons (pv 0) (pa_cons (pv 3) (pa_cons (pv 2) pa_nil)))))
    (pss_cons (ps_expr (pe_c c_lose_watches hr (by decide) rfl (pa_cons (pv 0) (pa_cons (pv 3) (pa_cons (pv 2) pa_nil)))))
    (pss_one (ps_expr (pe_c c_lose_links hr (by decide) rfl (pa_cons (pv 0) (pa_cons (pv 3) (pa_cons (pv 2) pa_nil)))))))) pss_nil)))))), ?_⟩
    refine ⟨_, rfl, L.w, c.w, dx, _, _, rfl, h1, T.clW, T.n_connections, wF_connections, _, rfl, _, rfl, (by show 2 ≤ sizeLine; decide), fun t ht => ?_⟩
    refine ⟨L.cn, _, rfl, DPut.t (k := kk a b) (upd_new R.cn ht) upd_same (by show 6 < sizeLine; decide), ?_⟩
    obtain ⟨R1, S1⟩ := rep_conn (R.new (o := .tup [ni a, ni b]) ht) G.wf (v := 0) hab
    have S1 := (Step.new (L := L) (o := .tup [ni a, ni b]) ht).trans S1
    obtain ⟨t0, et0⟩ : ∃ t0, t0 = setConn st a b 0 := ⟨_, rfl⟩
    rw [← et0] at R1
    have G1 : Good 1000 t0 := by rw [et0]; exact good_wire G
    have n0 : ∀ q, nodeOf t0 q = nodeOf st q := fun q => by rw [et0]; rfl
    have l0 : t0.procs.length = st.procs.length := by rw [et0]; rfl
    have K1 : ∀ i, Keep t0 ((those st a i).foldl (Ha05.cutOff b) t0) := fun i => keep_fold _ (keep_cutOff b) _ _
    obtain ⟨dx1, h2⟩ := R1.ins
    refine ⟨_, rfl, L.w, c.w, dx1, _, _, rfl, h2, T.clW, T.n_processes, wF_processes, L.pr, _, rfl, .inl (SqL.of R1.pr), _, _, rfl, rfl, ?_⟩
    have el : (L.ps.map fun l => V.ref l.a).length = st.procs.length := by rw [List.length_map, R.len]
    have lt12 := G.wf.few
    rw [el]
    refine ⟨1, _, rfl, ⟨by decide, by decide, by omega, by omega⟩, ?_⟩
    have en : ((st.procs.length : Int) + 1 - 1).toNat = st.procs.length := by omega
    rw [en]
    refine for_range (lo := 1) (n := st.procs.length) (fun i σ H' => ∃ (vp vq : Option V) (L' : Lay), σ = [some (.ref L.w), some (ni a), some (ni b), vp, vq] ∧ WRep c H' L' ((those st a i).foldl (Ha05.cutOff b) t0) ∧ Good 1000 ((those st a i).foldl (Ha05.cutOff b) t0) ∧ Step H L H' L')
      ⟨none, none, L, rfl, R1, G1, S1⟩ ?_ ?_
    · rintro i σ H' li ⟨vp, vq, L', rfl, R2, G2, S2⟩
      obtain ⟨u, eu⟩ : ∃ u, u = (those st a i).foldl (Ha05.cutOff b) t0 := ⟨_, rfl⟩
      have nu : ∀ q, nodeOf u q = nodeOf st q := fun q => by rw [eu]; exact ((K1 i).node q).trans (n0 q)
      have lu : u.procs.length = st.procs.length := by rw [eu]; exact (K1 i).len.trans l0
      rw [← eu] at R2 G2
      have ou : Ok u (i + 1) := ⟨by omega, by rw [lu]; omega⟩
      have ei : V.int (1 + (i : Int)) = ni (i + 1) := by
        unfold ni
        congr 1
        omega
      rw [ei]
      obtain ⟨dx2, h3⟩ := R2.ins
      obtain ⟨l, hl, Pr⟩ := R2.prc ou
      obtain ⟨ex, hi⟩ := Pr.ins
      have nx : ∀ (X : Ha05.St) (L3 : Lay) (H3 : Hp) (vq : Option V), X = (those st a (i + 1)).foldl (Ha05.cutOff b) t0 → WRep c H3 L3 X → Good 1000 X → Step H L H3 L3 →
          ∃ (vp' vq' : Option V) (L' : Lay), [some (.ref L.w), some (ni a), some (ni b), some (ni (i + 1)), vq] = [some (.ref L.w), some (ni a), some (ni b), vp', vq'] ∧ WRep c H3 L' ((those st a (i + 1)).foldl (Ha05.cutOff b) t0) ∧ Good 1000 ((those st a (i + 1)).foldl (Ha05.cutOff b) t0) ∧ Step H L H3 L' :=
        fun X L3 H3 vq e R3 G3 S3 => ⟨_, _, L3, rfl, e ▸ R3, e ▸ G3, S3⟩
      have ew := S2.w
      rw [← ew]
      refine ⟨_, rfl, L'.w, dx2, _, rfl, h3, wF_m_process, _, rfl, L'.w, dx2, L'.pr, _, _, i + 1, _, rfl, h3, wF_processes, R2.pr, by omega, ps_get hl, ?_⟩
      refine ⟨_, rfl, l.a, c.p, ex, _, _, rfl, hi, T.clP, T.n_node, pF_node, _, rfl, rfl, _, rfl, ?_⟩
      have enode : (proc u (i + 1)).node = nodeOf st (i + 1) := nu (i + 1)
      by_cases ea : nodeOf st (i + 1) = a
      · refine if_yes (decide_eq_true (by rw [enode, ea])) ?_
        have nxt : (those st a (i + 1)).foldl (Ha05.cutOff b) t0 = Ha05.cutOff b u (i + 1) := by
          rw [those_next, if_pos (by simp [ea]), List.foldl_append, ← eu]
          rfl
        refine ⟨_, rfl, l.a, c.p, ex, _, _, rfl, hi, T.clP, T.n_lives, pF_lives, _, rfl, ?_⟩
        cases elv : (proc u (i + 1)).lives with
        | false =>
          refine if_no rfl ?_
          rw [ew]
          refine nx u L' H' _ ?_ R2 G2 S2
          rw [nxt]
          unfold Ha05.cutOff
          rw [if_pos (by unfold Ha05.lives; rw [elv, Bool.and_false])]
        | true =>
          refine if_yes rfl ?_
          have Pw := G2.wf.pwf ou
          have hzp := sml_proc G2.sz ou
          refine ⟨_, rfl, _, rfl, _, rfl, L', u, i + 1, b, rfl, R2, G2.wf, ou, G2.sz.mono (by decide), G2.dnd ou, fun H3 R3 S3 => ?_⟩
          obtain ⟨x1, ex1⟩ : ∃ x1, x1 = setD (proc u (i + 1)) ((proc u (i + 1)).watched.filter fun y => !(nodeOf u y.2 == b)) := ⟨_, rfl⟩
          have R3 : WRep c H3 L' (setProc u (i + 1) x1) := by rw [ex1]; exact R3
          have e1 : proc (setProc u (i + 1) x1) (i + 1) = x1 := proc_same ou
          have nn1 : x1.node = (proc u (i + 1)).node := by rw [ex1]; rfl
          have n1 : ∀ q, nodeOf (setProc u (i + 1) x1) q = nodeOf u q := fun q => node_set nn1
          have W3 : Wf (setProc u (i + 1) x1) := wf_set G2.wf (by rw [ex1]; exact pwf_watched Pw) nn1
          have z3 : Sml 1000 (setProc u (i + 1) x1) := by
            have q := tw_set (w := one) (s := u) (x := x1) ou
            rw [pw_one, pw_one] at q
            have q2 := List.length_filter_le (fun y : Nat × Nat => !(nodeOf u y.2 == b)) (proc u (i + 1)).watched
            have q3 : tw one u ≤ 1000 := G2.sz
            have q4 : x1.links.length = (proc u (i + 1)).links.length ∧ x1.watches.length = (proc u (i + 1)).watches.length ∧ x1.box.length = (proc u (i + 1)).box.length ∧ x1.watched.length ≤ (proc u (i + 1)).watched.length := by
              rw [ex1]
              exact ⟨rfl, rfl, rfl, q2⟩
            show tw one (setProc u (i + 1) x1) ≤ 1000
            omega
          refine ⟨_, rfl, _, rfl, _, rfl, L', _, i + 1, b, rfl, R3, W3, ok_set.mpr ou, z3.mono (by decide), fun H4 R4 S4 => ?_⟩
          rw [e1] at R4
          simp only [n1] at R4
          obtain ⟨x2, ex2⟩ : ∃ x2 : Proc, x2 = { x1 with watches := x1.watches.filter fun y => !(nodeOf u y.2 == b), box := x1.box ++ (x1.watches.filter fun y => nodeOf u y.2 == b).map fun y => ⟨2, y.1, 4⟩ } := ⟨_, rfl⟩
          rw [← ex2] at R4
          have nn2 : x2.node = (proc (setProc u (i + 1) x1) (i + 1)).node := by rw [ex2, e1]
          have W4 : Wf (setProc (setProc u (i + 1) x1) (i + 1) x2) := by
            refine wf_set W3 ?_ nn2
            have Pw1 := W3.pwf (ok_set.mpr ou : Ok (setProc u (i + 1) x1) (i + 1))
            rw [e1] at Pw1
            rw [ex2]
            exact pwf_box (pwf_watches Pw1)
          have z4 : Sml 3000 (setProc (setProc u (i + 1) x1) (i + 1) x2) := by
            have q := tw_set (w := one) (s := setProc u (i + 1) x1) (x := x2) (ok_set.mpr ou)
            rw [pw_one, pw_one, e1] at q
            have q1 := List.length_filter_le (fun y : Nat × Nat => !(nodeOf u y.2 == b)) x1.watches
            have q2 := List.length_filter_le (fun y : Nat × Nat => nodeOf u y.2 == b) x1.watches
            have q3 : tw one (setProc u (i + 1) x1) ≤ 1000 := z3
            have q4 : x2.links.length = x1.links.length ∧ x2.watched.length = x1.watched.length ∧ x2.watches.length ≤ x1.watches.length ∧ x2.box.length ≤ x1.box.length + x1.watches.length := by
              rw [ex2]
              refine ⟨rfl, rfl, q1, ?_⟩
              simp only [List.length_append, List.length_map]
              omega
            have q5 := sml_proc z3 (ok_set.mpr ou : Ok (setProc u (i + 1) x1) (i + 1))
            rw [e1] at q5
            show tw one (setProc (setProc u (i + 1) x1) (i + 1) x2) ≤ 3000
            omega
          refine ⟨_, rfl, _, rfl, _, rfl, L', _, i + 1, b, rfl, R4, W4, ok_set.mpr (ok_set.mpr ou), z4, fun L5 H5 R5 S5 => ?_⟩
          have ec : cutL b (setProc (setProc u (i + 1) x1) (i + 1) x2) (i + 1) = Ha05.cutOff b u (i + 1) := by
            rw [← cutOff_eq ou elv, ex2, ex1]
            rfl
          rw [ec] at R5
          rw [ew]
          refine nx _ L5 H5 _ nxt.symm R5 (good_cutOff G2 ou) (((S2.trans S3).trans S4).trans S5)
      · refine if_no (decide_eq_false fun z => ea (by rw [← enode]; exact ni_inj z)) ?_
        refine if_no rfl ?_
        rw [ew]
        refine nx u L' H' _ ?_ R2 G2 S2
        rw [those_next, if_neg (by simp [ea]), List.append_nil, eu]
    · rintro σ H' ⟨vp, vq, L', rfl, R2, G2, S2⟩
      refine hQ L' H' ?_ S2
      rw [et0] at R2
      exact R2
end
end PN
end
section
set_option maxRecDepth 100000
set_option maxHeartbeats 4000000
/-! The calls break_wire, notice, join. -/
namespace PN
open PySem PySem.Spec PyProof.Rows L2
open Ha05 (Proc Fly Sig Link Note flag sigTold proc nodeOf conn wire setProc linkTo notes without withLink setWire)
theorem cutp {G : Prop} {R : Hp → Prop} (M : Hp → Prop) (h1 : (∀ H1, M H1 → R H1) → G) (h2 : ∀ H1, M H1 → R H1) : G := h1 h2
theorem pair_swap {a b : Nat} (h : Ha05.isPair a b = true) : Ha05.isPair b a = true := by
  rcases pairs h with ⟨rfl, rfl⟩ | ⟨rfl, rfl⟩ | ⟨rfl, rfl⟩ | ⟨rfl, rfl⟩ | ⟨rfl, rfl⟩ | ⟨rfl, rfl⟩ <;> rfl
theorem conns_notices (s : Ha05.St) (a b : Nat) : (Ha05.notices s a b).conns = s.conns := by
  unfold Ha05.notices
  dsimp only
  exact (keep_fold _ (keep_cutOff b) _ _).conns
theorem join_end {s : Ha05.St} {a b k : Nat} (h : Ha05.isPair a b = true) (hw : ∃ x y z, s.wires = [x, y, z]) :
    setConn (setConn { setBrk s a b false with conns := k } a b k) b a k = setWire { s with conns := k } a b ⟨k, k, false⟩ := by
  obtain ⟨procs, air, last, wires, conns⟩ := s
  obtain ⟨x, y, z, e⟩ := hw
  subst e
  rcases pairs h with ⟨rfl, rfl⟩ | ⟨rfl, rfl⟩ | ⟨rfl, rfl⟩ | ⟨rfl, rfl⟩ | ⟨rfl, rfl⟩ | ⟨rfl, rfl⟩ <;> rfl
theorem ne_ni {n : Nat} (h : ¬ n = 0) : (!decide (ni n = V.int 0)) = true := ne_int (z := (n : Int)) (by omega)
section
variable {P : Program} {w : World} {K : PySem.W.Frag} {mg : Str → Option Value} {base : Heap} {c : Cs}
def spJoin (c : Cs) : Sp := fun vs H Q _ => ∃ (L : Lay) (s : Ha05.St) (a b : Nat), vs = [.ref L.w, ni a, ni b] ∧ WRep c H L s ∧ Good 1000 s ∧ Ha05.isPair a b = true ∧ ∀ L' H', WRep c H' L' (Ha05.joins s a b) → Step H L H' L' → Q (ni (s.conns + 1)) H'
theorem cal_joinNodes (T : Txt K mg c) (D : Dfn K mg "join_nodes" s_join_nodes) (c_wire_between : Cal P w K mg base 1 "wire_between" spWire) (c_notice_loss : Cal P w K mg base 7 "notice_loss" (spNotice c))
    (m_World_new_connection : Met P w K mg base 1 c.w "new_connection" (spCon c)) : Cal P w K mg base 8 "join_nodes" (spJoin c) := by
  refine cal_of D sc_join_nodes (fun _ _ _ _ _ _ us hl => match us, hl with | [_, _, _], _ => rfl) (fun vs H Q E h => ?_) (fun f cdv A outer s H vs Q E hr h => ?_)
  · obtain ⟨_, _, _, _, rfl, _⟩ := h; rfl
  · have hu := hu_of hr
    obtain ⟨L, st, a, b, rfl, R, G, hab, hQ⟩ := h
    obtain ⟨oa, ob, nab⟩ := pair_ok hab
    obtain ⟨dx, h1⟩ := R.ins
    refine ⟨_, (pss_cons (ps_set (i := 3) sc_join_nodes.nd rfl (Or.inl rfl) (pe_c c_wire_between hr (by decide) rfl (pa_cons (pv 1) (pa_cons (pv 2) pa_nil))))
    (pss_cons (ps_dput hu (pe_fld (pv 0) rfl) (pv 3) pe_bl rfl)
    (pss_cons (ps_if (pt_cmpR op_ne (pe_dget hu (pe_fld (pv 0) rfl) (pe_tup (pa_cons (pv 1) (pa_cons (pv 2) pa_nil))) (fun _ _ => rfl)) (pe_k T.k_NO_CONNECTION rfl) (nomark _)) (pss_one (ps_expr (pe_c c_notice_loss hr (by decide) rfl (pa_cons (pv 0) (pa_cons (pv 1) (pa_cons (pv 2) pa_nil)))))) pss_nil)
    (pss_cons (ps_if (pt_cmpR op_ne (pe_dget hu (pe_fld (pv 0) rfl) (pe_tup (pa_cons (pv 2) (pa_cons (pv 1) pa_nil))) (fun _ _ => rfl)) (pe_k T.k_NO_CONNECTION rfl) (nomark _)) (pss_one (ps_expr (pe_c c_notice_loss hr (by decide) rfl (pa_cons (pv 0) (pa_cons (pv 2) (pa_cons (pv 1) pa_nil)))))) pss_nil)
    (pss_cons (ps_dput hu (pe_fld (pv 0) rfl) (pv 3) pe_bl rfl)
    (pss_cons (ps_set (i := 4) sc_join_nodes.nd rfl (Or.inl rfl) (pe_mt0 m_World_new_connection hr (by decide) (pv 0)))
    (pss_cons (ps_dput hu (pe_fld (pv 0) rfl) (pe_tup (pa_cons (pv 1) (pa_cons (pv 2) pa_nil))) (pv 4) rfl)
    (pss_cons (ps_dput hu (pe_fld (pv 0) rfl) (pe_tup (pa_cons (pv 2) (pa_cons (pv 1) pa_nil))) (pv 4) rfl)
    (pss_one (ps_ret (pv 4))))))))))), ?_⟩
    refine ⟨_, rfl, _, rfl, a, b, rfl, fun t ht => ?_⟩
    refine ⟨_, rfl, L.w, c.w, dx, _, _, rfl, upd_new h1 ht, T.clW, T.n_broken, wF_broken, _, rfl, L.br, _, rfl, DPut.t (k := kk (min a b) (max a b)) (upd_new R.br ht) upd_same (by show 3 < sizeLine; decide), ?_⟩
    obtain ⟨R0, S0⟩ := rep_brk (R.new (o := .tup [ni (min a b), ni (max a b)]) ht) G.wf (v := true) hab
    have ht0 := S0.tups (R.new (o := .tup [ni (min a b), ni (max a b)]) ht) t _ upd_same
    have S0 := (Step.new (L := L) (o := .tup [ni (min a b), ni (max a b)]) ht).trans S0
    obtain ⟨s0, es0⟩ : ∃ s0, s0 = Ha05.breaks st a b := ⟨_, rfl⟩
    have R0 : WRep c (upd (upd H t (.tup [ni (min a b), ni (max a b)])) L.br (.dT (putK (kvB st) (kk (min a b) (max a b)) (.bl true)))) L s0 := by rw [es0]; exact R0
    have G0 : Good 1000 s0 := by rw [es0]; exact good_breaks G
    obtain ⟨s1, es1⟩ : ∃ s1, s1 = if conn s0 a b = 0 then s0 else Ha05.notices s0 a b := ⟨_, rfl⟩
    obtain ⟨s2, es2⟩ : ∃ s2, s2 = if conn s1 b a = 0 then s1 else Ha05.notices s1 b a := ⟨_, rfl⟩
    have G1 : Good 1000 s1 := by rw [es1]; exact good_if G0 (good_notices G0)
    have G2 : Good 1000 s2 := by rw [es2]; exact good_if G1 (good_notices G1)
    have c2 : s2.conns = st.conns := by
      have e0 : s0.conns = st.conns := by rw [es0]; rfl
      have e1 : s1.conns = s0.conns := by
        rw [es1]
        split
        · rfl
        · exact conns_notices _ _ _
      rw [es2]
      split
      · exact e1.trans e0
      · exact (conns_notices _ _ _).trans (e1.trans e0)
    -- the first loss
    refine' @cutp _ _ (fun H1 => ∃ L1, WRep c H1 L1 s1 ∧ Step H L H1 L1 ∧ H1 t = some (.tup [ni (min a b), ni (max a b)])) ?ha ?hb
    case ha =>
      intro key
      obtain ⟨dx0, h2⟩ := R0.ins
      refine ⟨_, rfl, L.w, c.w, dx0, _, _, rfl, h2, T.clW, T.n_connections, wF_connections, _, rfl, _, rfl, (by show 2 ≤ sizeLine; decide), fun t2 ht2 => ?_⟩
      refine ⟨L.cn, _, rfl, (valC (s := s0) oa ob nab) ▸ DGet.t (k := kk a b) (upd_new R0.cn ht2) upd_same, rfl, _, rfl, ?_⟩
      by_cases e : conn s0 a b = 0
      · refine if_no (by rw [e]; rfl) ?_
        refine key _ ⟨L, ?_, S0.trans (Step.new (L := L) ht2), upd_new ht0 ht2⟩
        rw [es1, if_pos e]
        exact R0.new ht2
      · refine if_yes (ne_ni e) ?_
        refine ⟨_, rfl, _, rfl, _, rfl, L, s0, a, b, rfl, R0.new ht2, G0, hab, fun L1 H1 R1 S1 => ?_⟩
        refine key H1 ⟨L1, ?_, (S0.trans (Step.new (L := L) ht2)).trans S1, S1.tups (R0.new ht2) _ _ (upd_new ht0 ht2)⟩
        rw [es1, if_neg e]
        exact R1
    rintro H1 ⟨L1, R1, S1, ht1⟩
    -- the second
    rw [← S1.w]
    refine' @cutp _ _ (fun H1 => ∃ L1, WRep c H1 L1 s2 ∧ Step H L H1 L1 ∧ H1 t = some (.tup [ni (min a b), ni (max a b)])) ?hc ?hd
    case hc =>
      intro key
      obtain ⟨dx1, h2⟩ := R1.ins
      refine ⟨_, rfl, L1.w, c.w, dx1, _, _, rfl, h2, T.clW, T.n_connections, wF_connections, _, rfl, _, rfl, (by show 2 ≤ sizeLine; decide), fun t2 ht2 => ?_⟩
      refine ⟨L1.cn, _, rfl, (valC (s := s1) ob oa (Ne.symm nab)) ▸ DGet.t (k := kk b a) (upd_new R1.cn ht2) upd_same, rfl, _, rfl, ?_⟩
      by_cases e : conn s1 b a = 0
      · refine if_no (by rw [e]; rfl) ?_
        refine key _ ⟨L1, ?_, S1.trans (Step.new (L := L1) ht2), upd_new ht1 ht2⟩
        rw [es2, if_pos e]
        exact R1.new ht2
      · refine if_yes (ne_ni e) ?_
        refine ⟨_, rfl, _, rfl, _, rfl, L1, s1, b, a, rfl, R1.new ht2, G1, pair_swap hab, fun L2 H2 R2 S2 => ?_⟩
        refine key H2 ⟨L2, ?_, (S1.trans (Step.new (L := L1) ht2)).trans S2, S2.tups (R1.new ht2) _ _ (upd_new ht1 ht2)⟩
        rw [es2, if_neg e]
        exact R2
    rintro H2 ⟨L2, R2, S2, ht2⟩
    rw [S1.w, ← S2.w]
    obtain ⟨dx2, h2⟩ := R2.ins
    refine ⟨_, rfl, L2.w, c.w, dx2, _, _, rfl, h2, T.clW, T.n_broken, wF_broken, _, rfl, L2.br, _, rfl, DPut.t (k := kk (min a b) (max a b)) R2.br ht2 (by show 3 < sizeLine; decide), ?_⟩
    obtain ⟨R3, S3⟩ := rep_brk R2 G2.wf (v := false) hab
    obtain ⟨dx3, h3⟩ := R3.ins
    refine ⟨_, rfl, L2.w, dx3, _, rfl, h3, wF_m_new_connection, L2, _, rfl, R3, fun H4 R4 S4 => ?_⟩
    have W3 : Wf (setBrk s2 a b false) := wf_wire G2.wf
    have W4 : Wf { setBrk s2 a b false with conns := s2.conns + 1 } := ⟨W3.pr, fun y hy => ⟨(W3.ar y hy).fr, (W3.ar y hy).to, (W3.ar y hy).far⟩, W3.wi, W3.few⟩
    have R4 : WRep c H4 L2 { setBrk s2 a b false with conns := s2.conns + 1 } := R4
    obtain ⟨dx4, h4⟩ := R4.ins
    refine ⟨_, rfl, _, rfl, L2.w, c.w, dx4, _, _, rfl, h4, T.clW, T.n_connections, wF_connections, _, rfl, _, rfl, (by show 2 ≤ sizeLine; decide), fun t5 ht5 => ?_⟩
    refine ⟨L2.cn, _, rfl, DPut.t (k := kk a b) (upd_new R4.cn ht5) upd_same (by show 6 < sizeLine; decide), ?_⟩
    obtain ⟨R5, S5⟩ := rep_conn (R4.new (o := .tup [ni a, ni b]) ht5) W4 (v := s2.conns + 1) hab
    obtain ⟨dx5, h5⟩ := R5.ins
    have W5 : Wf (setConn { setBrk s2 a b false with conns := s2.conns + 1 } a b (s2.conns + 1)) := wf_wire W4
    refine ⟨_, rfl, _, rfl, L2.w, c.w, dx5, _, _, rfl, h5, T.clW, T.n_connections, wF_connections, _, rfl, _, rfl, (by show 2 ≤ sizeLine; decide), fun t6 ht6 => ?_⟩
    refine ⟨L2.cn, _, rfl, DPut.t (k := kk b a) (upd_new R5.cn ht6) upd_same (by show 6 < sizeLine; decide), ?_⟩
    obtain ⟨R6, S6⟩ := rep_conn (R5.new (o := .tup [ni b, ni a]) ht6) W5 (v := s2.conns + 1) (pair_swap hab)
    rw [join_end hab G2.wf.wi] at R6
    refine ⟨_, rfl, ?_⟩
    have ej : Ha05.joins st a b = setWire { s2 with conns := s2.conns + 1 } a b ⟨s2.conns + 1, s2.conns + 1, false⟩ := by
      rw [es2, es1, es0]
      rfl
    have e7 : V.int ((((setBrk s2 a b false).conns + 1 : Nat)) : Int) = ni (st.conns + 1) := by
      show ni (s2.conns + 1) = _
      rw [c2]
    have := hQ L2 _ (by rw [ej]; exact R6) (((((S2.trans S3).trans S4).trans (Step.new (L := L2) ht5)).trans S5 |>.trans (Step.new (L := L2) ht6)).trans S6)
    rw [← e7] at this
    exact this
theorem wref_cases (a b : Nat) : (Ha05.isPair a b = true ∧ wref a b = 0) ∨ (Ha05.isPair a b = false ∧ wref a b = -1) := by
  unfold wref
  cases e : Ha05.isPair a b
  · exact .inr ⟨rfl, rfl⟩
  · exact .inl ⟨rfl, rfl⟩
theorem cal_break (T : Txt K mg c) (D : Dfn K mg "break_wire" s_break_wire) (c_wire_refusal : Cal P w K mg base 2 "wire_refusal" spWref) (c_wire_between : Cal P w K mg base 1 "wire_between" spWire) : Cal P w K mg base 3 "break_wire" (spCall c 15) := by
  refine cal_of D sc_break_wire (fun _ _ _ _ _ _ us hl => match us, hl with | [_, _, _], _ => rfl) (fun vs H Q E h => ?_) (fun f cdv A outer s H vs Q E hr h => ?_)
  · obtain ⟨L, st, args, cl, rfl, hc, _⟩ := h
    obtain ⟨p, q, rfl, rfl⟩ := in2 (f := .break_) hc rfl (fun _ => rfl) (fun _ _ => rfl) (fun _ _ _ _ => rfl)
    rfl
  · have hu := hu_of hr
    obtain ⟨L, st, args, cl, rfl, hc, R, G, hQ⟩ := h
    obtain ⟨a, b, rfl, rfl⟩ := in2 (f := .break_) hc rfl (fun _ => rfl) (fun _ _ => rfl) (fun _ _ _ _ => rfl)
    obtain ⟨dx, h1⟩ := R.ins
    have est : Ha05.step st (.break_ a b) = if Ha05.isPair a b = false then (st, [-1]) else if (wire st a b).broken = true then (st, [-4]) else (Ha05.breaks st a b, [0]) := rfl
    refine ⟨_, (pss_cons (ps_set (i := 3) sc_break_wire.nd rfl (Or.inl rfl) (pe_c c_wire_refusal hr (by decide) rfl (pa_cons (pv 1) (pa_cons (pv 2) pa_nil))))
    (pss_cons (ps_if (pt_cmpR op_ne (pv 3) (pe_k T.k_FITS rfl) (nomark _)) (pss_one (ps_ret (pe_lst (pa_cons (pv 3) pa_nil)))) pss_nil)
    (pss_cons (ps_set (i := 4) sc_break_wire.nd rfl (Or.inl rfl) (pe_c c_wire_between hr (by decide) rfl (pa_cons (pv 1) (pa_cons (pv 2) pa_nil))))
    (pss_cons (ps_if (pt_val (pe_dget hu (pe_fld (pv 0) rfl) (pv 4) (fun _ _ => rfl))) (pss_one (ps_ret (pe_lst (pa_cons (pe_k T.k_NOT_SO_NOW rfl) pa_nil)))) pss_nil)
    (pss_cons (ps_dput hu (pe_fld (pv 0) rfl) (pv 4) pe_bl rfl)
    (pss_one (ps_ret (pe_lst (pa_cons pe_int pa_nil))))))))), ?_⟩
    refine ⟨_, rfl, _, rfl, a, b, rfl, ?_⟩
    refine ⟨_, rfl, rfl, _, rfl, ?_⟩
    rcases wref_cases a b with ⟨hab, e⟩ | ⟨hab, e⟩
    · refine if_no (eq_int e) ?_
      rw [if_neg (by rw [hab]; simp)] at est
      obtain ⟨oa, ob, nab⟩ := pair_ok hab
      refine ⟨_, rfl, _, rfl, a, b, rfl, fun t ht => ?_⟩
      refine ⟨_, rfl, L.w, c.w, dx, _, _, rfl, upd_new h1 ht, T.clW, T.n_broken, wF_broken, _, rfl, L.br, _, rfl, (valB (s := st) oa ob nab) ▸ DGet.t (k := kk (min a b) (max a b)) (upd_new R.br ht) upd_same, _, rfl, ?_⟩
      cases eb : (wire st a b).broken with
      | true =>
        refine if_yes rfl ?_
        rw [if_pos eb] at est
        refine ⟨(by show 1 ≤ sizeLine; decide), fun r hr => hQ.fin (R.new ht) (Step.new (L := L) ht).stp hr (by rw [est]) (by rw [est]; rfl)⟩
      | false =>
        refine if_no rfl ?_
        rw [if_neg (by rw [eb]; simp)] at est
        refine ⟨_, rfl, L.w, c.w, dx, _, _, rfl, upd_new h1 ht, T.clW, T.n_broken, wF_broken, _, rfl, L.br, _, rfl, DPut.t (k := kk (min a b) (max a b)) (upd_new R.br ht) upd_same (by show 3 < sizeLine; decide), ?_⟩
        obtain ⟨R1, S1⟩ := rep_brk (R.new (o := .tup [ni (min a b), ni (max a b)]) ht) G.wf (v := true) hab
        refine ⟨(by show 1 ≤ sizeLine; decide), fun r hr => hQ.fin R1 ((Step.new (L := L) ht).trans S1).stp hr (by rw [est]; rfl) (by rw [est]; rfl)⟩
    · refine if_yes (ne_int (by rw [e]; decide)) ?_
      rw [if_pos hab] at est
      exact ⟨_, rfl, (by show 1 ≤ sizeLine; decide), fun r hr => hQ.one R hr est (by rw [e]; rfl)⟩
theorem cal_notice (T : Txt K mg c) (D : Dfn K mg "notice" s_notice) (c_wire_refusal : Cal P w K mg base 2 "wire_refusal" spWref) (c_wire_between : Cal P w K mg base 1 "wire_between" spWire) (c_notice_loss : Cal P w K mg base 7 "notice_loss" (spNotice c)) : Cal P w K mg base 8 "notice" (spCall c 16) := by
  refine cal_of D sc_notice (fun _ _ _ _ _ _ us hl => match us, hl with | [_, _, _], _ => rfl) (fun vs H Q E h => ?_) (fun f cdv A outer s H vs Q E hr h => ?_)
  · obtain ⟨L, st, args, cl, rfl, hc, _⟩ := h
    obtain ⟨p, q, rfl, rfl⟩ := in2 (f := .notice) hc rfl (fun _ => rfl) (fun _ _ => rfl) (fun _ _ _ _ => rfl)
    rfl
  · have hu := hu_of hr
    obtain ⟨L, st, args, cl, rfl, hc, R, G, hQ⟩ := h
    obtain ⟨a, b, rfl, rfl⟩ := in2 (f := .notice) hc rfl (fun _ => rfl) (fun _ _ => rfl) (fun _ _ _ _ => rfl)
    obtain ⟨dx, h1⟩ := R.ins
    have est : Ha05.step st (.notice a b) = if Ha05.isPair a b = false then (st, [-1]) else if conn st a b = 0 ∨ (wire st a b).broken = false then (st, [-4]) else (Ha05.notices st a b, Ha05.ints [conn st a b]) := rfl
    refine ⟨_, (pss_cons (ps_set (i := 3) sc_notice.nd rfl (Or.inl rfl) (pe_c c_wire_refusal hr (by decide) rfl (pa_cons (pv 1) (pa_cons (pv 2) pa_nil))))
    (pss_cons (ps_if (pt_cmpR op_ne (pv 3) (pe_k T.k_FITS rfl) (nomark _)) (pss_one (ps_ret (pe_lst (pa_cons (pv 3) pa_nil)))) pss_nil)
    (pss_cons (ps_set (i := 4) sc_notice.nd rfl (Or.inl rfl) (pe_dget hu (pe_fld (pv 0) rfl) (pe_tup (pa_cons (pv 1) (pa_cons (pv 2) pa_nil))) (fun _ _ => rfl)))
    (pss_cons (ps_if (PW.pt (pw_or (pt_cmpR op_eq (pv 4) (pe_k T.k_NO_CONNECTION rfl) (nomark _)) (pw_or1 (pt_not (pt_val (pe_dget hu (pe_fld (pv 0) rfl) (pe_c c_wire_between hr (by decide) rfl (pa_cons (pv 1) (pa_cons (pv 2) pa_nil))) (fun _ _ => rfl))))))) (pss_one (ps_ret (pe_lst (pa_cons (pe_k T.k_NOT_SO_NOW rfl) pa_nil)))) pss_nil)
    (pss_cons (ps_expr (pe_c c_notice_loss hr (by decide) rfl (pa_cons (pv 0) (pa_cons (pv 1) (pa_cons (pv 2) pa_nil)))))
    (pss_one (ps_ret (pe_lst (pa_cons (pv 4) pa_nil))))))))), ?_⟩
    refine ⟨_, rfl, _, rfl, a, b, rfl, ?_⟩
    refine ⟨_, rfl, rfl, _, rfl, ?_⟩
    rcases wref_cases a b with ⟨hab, e⟩ | ⟨hab, e⟩
    · refine if_no (eq_int e) ?_
      rw [if_neg (by rw [hab]; simp)] at est
      obtain ⟨oa, ob, nab⟩ := pair_ok hab
      refine ⟨_, rfl, L.w, c.w, dx, _, _, rfl, h1, T.clW, T.n_connections, wF_connections, _, rfl, _, rfl, (by show 2 ≤ sizeLine; decide), fun t ht => ?_⟩
      refine ⟨L.cn, _, rfl, (valC (s := st) oa ob nab) ▸ DGet.t (k := kk a b) (upd_new R.cn ht) upd_same, ?_⟩
      refine ⟨_, rfl, rfl, _, rfl, ?_⟩
      have R1 := R.new (o := .tup [ni a, ni b]) ht
      have S1 := Step.new (L := L) (o := .tup [ni a, ni b]) ht
      by_cases e0 : conn st a b = 0
      · refine if_yes (decide_eq_true (congrArg ni e0)) ?_
        refine if_yes rfl ?_
        rw [if_pos (.inl e0)] at est
        exact ⟨(by show 1 ≤ sizeLine; decide), fun r hr => hQ.fin R1 S1.stp hr (by rw [est]) (by rw [est]; rfl)⟩
      · refine if_no (decide_eq_false fun z => e0 (ni_inj (b := 0) z)) ?_
        refine ⟨_, rfl, L.w, c.w, dx, _, _, rfl, upd_new h1 ht, T.clW, T.n_broken, wF_broken, _, rfl, _, rfl, a, b, rfl, fun t2 ht2 => ?_⟩
        refine ⟨L.br, _, rfl, (valB (s := st) oa ob nab) ▸ DGet.t (k := kk (min a b) (max a b)) (upd_new R1.br ht2) upd_same, _, rfl, ?_⟩
        have R2 := R1.new (o := .tup [ni (min a b), ni (max a b)]) ht2
        have S2 := S1.trans (Step.new (L := L) (o := .tup [ni (min a b), ni (max a b)]) ht2)
        cases eb : (wire st a b).broken with
        | false =>
          refine if_yes rfl ?_
          rw [if_pos (.inr eb)] at est
          exact ⟨(by show 1 ≤ sizeLine; decide), fun r hr => hQ.fin R2 S2.stp hr (by rw [est]) (by rw [est]; rfl)⟩
        | true =>
          refine if_no rfl ?_
          rw [if_neg (by rw [eb]; simp [e0])] at est
          refine ⟨_, rfl, _, rfl, _, rfl, L, st, a, b, rfl, R2, G, hab, fun L' H' R3 S3 => ?_⟩
          exact ⟨_, rfl, (by show 1 ≤ sizeLine; decide), fun r hr => hQ.fin R3 (S2.trans S3).stp hr (by rw [est]) (by rw [est]; rfl)⟩
    · refine if_yes (ne_int (by rw [e]; decide)) ?_
      rw [if_pos hab] at est
      exact ⟨_, rfl, (by show 1 ≤ sizeLine; decide), fun r hr => hQ.one R hr est (by rw [e]; rfl)⟩
theorem cal_join (T : Txt K mg c) (D : Dfn K mg "join" s_join) (c_wire_refusal : Cal P w K mg base 2 "wire_refusal" spWref) (c_join_nodes : Cal P w K mg base 8 "join_nodes" (spJoin c)) : Cal P w K mg base 9 "join" (spCall c 17) := by
  refine cal_of D sc_join (fun _ _ _ _ _ _ us hl => match us, hl with | [_, _, _], _ => rfl) (fun vs H Q E h => ?_) (fun f cdv A outer s H vs Q E hr h => ?_)
  · obtain ⟨L, st, args, cl, rfl, hc, _⟩ := h
    obtain ⟨p, q, rfl, rfl⟩ := in2 (f := .join) hc rfl (fun _ => rfl) (fun _ _ => rfl) (fun _ _ _ _ => rfl)
    rfl
  · obtain ⟨L, st, args, cl, rfl, hc, R, G, hQ⟩ := h
    obtain ⟨a, b, rfl, rfl⟩ := in2 (f := .join) hc rfl (fun _ => rfl) (fun _ _ => rfl) (fun _ _ _ _ => rfl)
    have est : Ha05.step st (.join a b) = if Ha05.isPair a b = false then (st, [-1]) else (Ha05.joins st a b, Ha05.ints [st.conns + 1]) := rfl
    refine ⟨_, (pss_cons (ps_set (i := 3) sc_join.nd rfl (Or.inl rfl) (pe_c c_wire_refusal hr (by decide) rfl (pa_cons (pv 1) (pa_cons (pv 2) pa_nil))))
    (pss_cons (ps_if (pt_cmpR op_ne (pv 3) (pe_k T.k_FITS rfl) (nomark _)) (pss_one (ps_ret (pe_lst (pa_cons (pv 3) pa_nil)))) pss_nil)
    (pss_one (ps_ret (pe_lst (pa_cons (pe_c c_join_nodes hr (by decide) rfl (pa_cons (pv 0) (pa_cons (pv 1) (pa_cons (pv 2) pa_nil)))) pa_nil)))))), ?_⟩
    refine ⟨_, rfl, _, rfl, a, b, rfl, ?_⟩
    refine ⟨_, rfl, rfl, _, rfl, ?_⟩
    rcases wref_cases a b with ⟨hab, e⟩ | ⟨hab, e⟩
    · refine if_no (eq_int e) ?_
      rw [if_neg (by rw [hab]; simp)] at est
      refine ⟨_, rfl, _, rfl, _, rfl, L, st, a, b, rfl, R, G, hab, fun L' H' R' S' => ?_⟩
      exact ⟨(by show 1 ≤ sizeLine; decide), fun r hr => hQ.fin R' S'.stp hr (by rw [est]) (by rw [est]; rfl)⟩
    · refine if_yes (ne_int (by rw [e]; decide)) ?_
      rw [if_pos hab] at est
      exact ⟨_, rfl, (by show 1 ≤ sizeLine; decide), fun r hr => hQ.one R hr est (by rw [e]; rfl)⟩
end
end PN
end
section
set_option maxRecDepth 100000
set_option maxHeartbeats 4000000
/-! The answers. -/
namespace PN
open PySem PySem.Spec PyProof.Rows L2
open Ha05 (Proc Fly Sig Link Note flag sigTold proc nodeOf conn wire setProc linkTo notes without withLink setWire)
section
variable {P : Program} {w : World} {K : PySem.W.Frag} {mg : Str → Option Value} {base : Heap} {c : Cs}
def spAnswer (c : Cs) : Sp := fun vs H Q _ => ∃ (L : Lay) (s : Ha05.St) (j : Nat) (args : List Nat) (cl : Ha05.Call) (r : Addr), vs = [.ref L.w, ni j, .ref r] ∧ H r = some (.lst (args.map ni)) ∧ Ha05Neutral.callIn [j :: args] = some cl ∧ WRep c H L s ∧ Good 1000 s ∧ Told c H L (Ha05.step s cl) Q
theorem cal_answer (T : Txt K mg c) (D : Dfn K mg "answer" s_answer) (hF : ∀ (j : Nat) (f : Addr), c.fs[j]? = some f → Held P w K mg base 9 f (spCall c j)) : Cal P w K mg base 10 "answer" (spAnswer c) := by
  refine cal_of D sc_answer (fun _ _ _ _ _ _ us hl => match us, hl with | [_, _, _], _ => rfl) (fun vs H Q E h => ?_) (fun f cdv A outer s H vs Q E hr h => ?_)
  · obtain ⟨_, _, _, _, _, _, rfl, _⟩ := h; rfl
  · obtain ⟨L, st, j, args, cl, r, rfl, hr0, hc, R, G, hQ⟩ := h
    have CALLEES : ∀ f sp, (∃ j, c.fs[j]? = some f ∧ sp = spCall c j) → Held P w K mg base 9 f sp := fun f sp ⟨j, e1, e2⟩ => e2 ▸ hF j f e1
    obtain ⟨lj, la⟩ := callIn_bound hc
    obtain ⟨fa, hfa⟩ : ∃ fa, c.fs[j]? = some fa := ⟨c.fs[j]'(by rw [T.l_fs]; exact lj), List.getElem?_eq_getElem _⟩
    refine ⟨_, (pss_cons (ps_set (i := 3) sc_answer.nd rfl (Or.inl rfl) (pe_ix ix_tup (pe_glob (v := .ref c.calls) rfl T.m_CALLS rfl) (pv 1) (fun _ _ => rfl)))
    (pss_cons (ps_if (pt_cmpR op_eq (pe_callB call_len_seq (by rfl) T.m_len PySem.boot_len (pa_cons (pv 2) pa_nil)) pe_int (nomark _)) (pss_one (ps_ret (pe_callR (i := 3) CALLEES hr rfl (Or.inl rfl) (pa_cons (pv 0) pa_nil)))) pss_nil)
    (pss_cons (ps_if (pt_cmpR op_eq (pe_callB call_len_seq (by rfl) T.m_len PySem.boot_len (pa_cons (pv 2) pa_nil)) pe_int (nomark _)) (pss_one (ps_ret (pe_callR (i := 3) CALLEES hr rfl (Or.inl rfl) (pa_cons (pv 0) (pa_cons (pe_ix ix_list (pv 2) pe_int (fun _ _ => rfl)) pa_nil))))) pss_nil)
    (pss_cons (ps_if (pt_cmpR op_eq (pe_callB call_len_seq (by rfl) T.m_len PySem.boot_len (pa_cons (pv 2) pa_nil)) pe_int (nomark _)) (pss_one (ps_ret (pe_callR (i := 3) CALLEES hr rfl (Or.inl rfl) (pa_cons (pv 0) (pa_cons (pe_ix ix_list (pv 2) pe_int (fun _ _ => rfl)) (pa_cons (pe_ix ix_list (pv 2) pe_int (fun _ _ => rfl)) pa_nil)))))) pss_nil)
    (pss_one (ps_ret (pe_callR (i := 3) CALLEES hr rfl (Or.inl rfl) (pa_cons (pv 0) (pa_cons (pe_ix ix_list (pv 2) pe_int (fun _ _ => rfl)) (pa_cons (pe_ix ix_list (pv 2) pe_int (fun _ _ => rfl)) (pa_cons (pe_ix ix_list (pv 2) pe_int (fun _ _ => rfl)) pa_nil))))))))))), ?_⟩
    refine ⟨_, rfl, c.calls, _, _, .ref fa, rfl, rfl, T.t_CALLS H, at_of (j := j) rfl (by rw [List.getElem?_map, hfa]; rfl), ?_⟩
    refine ⟨_, rfl, r, _, rfl, .inl (SqL.of hr0), rfl, _, rfl, ?_⟩
    rcases args with _ | ⟨a1, _ | ⟨a2, _ | ⟨a3, _ | ⟨a4, t⟩⟩⟩⟩
    · refine if_yes rfl ?_
      exact ⟨fa, _, rfl, ⟨j, hfa, rfl⟩, _, rfl, L, st, [], cl, rfl, hc, R, G, hQ⟩
    · refine if_no rfl ?_
      refine ⟨_, rfl, r, _, rfl, .inl (SqL.of hr0), rfl, _, rfl, if_yes rfl ?_⟩
      exact ⟨fa, _, rfl, ⟨j, hfa, rfl⟩, _, rfl, _, rfl, r, _, 0, _, rfl, rfl, SqL.of hr0, at_of (j := 0) rfl rfl, L, st, [a1], cl, rfl, hc, R, G, hQ⟩
    · refine if_no rfl ?_
      refine ⟨_, rfl, r, _, rfl, .inl (SqL.of hr0), rfl, _, rfl, if_no rfl ?_⟩
      refine ⟨_, rfl, r, _, rfl, .inl (SqL.of hr0), rfl, _, rfl, if_yes rfl ?_⟩
      exact ⟨fa, _, rfl, ⟨j, hfa, rfl⟩, _, rfl, _, rfl, r, _, 0, _, rfl, rfl, SqL.of hr0, at_of (j := 0) rfl rfl, _, rfl, r, _, 1, _, rfl, rfl, SqL.of hr0, at_of (j := 1) rfl rfl, L, st, [a1, a2], cl, rfl, hc, R, G, hQ⟩
    · refine if_no rfl ?_
      refine ⟨_, rfl, r, _, rfl, .inl (SqL.of hr0), rfl, _, rfl, if_no rfl ?_⟩
      refine ⟨_, rfl, r, _, rfl, .inl (SqL.of hr0), rfl, _, rfl, if_no rfl ?_⟩
      exact ⟨fa, _, rfl, ⟨j, hfa, rfl⟩, _, rfl, _, rfl, r, _, 0, _, rfl, rfl, SqL.of hr0, at_of (j := 0) rfl rfl, _, rfl, r, _, 1, _, rfl, rfl, SqL.of hr0, at_of (j := 1) rfl rfl, _, rfl, r, _, 2, _, rfl, rfl, SqL.of hr0, at_of (j := 2) rfl rfl, L, st, [a1, a2, a3], cl, rfl, hc, R, G, hQ⟩
    · simp at la
def spAns (K : PySem.W.Frag) : Sp := fun vs H Q _ => ∃ (a : Addr) (ns : List Int), vs = [.ref a] ∧ SqL K H a (ns.map V.int) ∧ ns.length ≤ 600 ∧ PyHa05.answers_asked ns = true ∧
  ∀ (H' : Hp) (p : Addr), H' p = some (.lst ((PyHa05.answers ns).map V.int)) → Q (.ref p) H'
/-- what is asked of a line -/
theorem asked_is {ns : List Int} (h : PyHa05.answers_asked ns = true) : ∃ raw, PyFlat.calls PyHa05.shape ns.length ns = some raw ∧ (∀ x ∈ raw, Ha05Neutral.asked1 x = true) ∧ raw.length ≤ 100 ∧ PyHa05.answers ns = PyFlat.told (PyFlat.played Ha05Neutral.step Ha05Neutral.start raw) ∧ (PyHa05.answers ns).length ≤ 10000000 := by
  unfold PyHa05.answers_asked at h
  cases e : PyFlat.calls PyHa05.shape ns.length ns with
  | none => rw [e] at h; cases h
  | some raw =>
    rw [e] at h
    have mw := map_whole ns.length ns.length (Nat.le_refl _) e
    have h : (!raw.isEmpty && PyFlat.atMost 100 raw && PyInside.calls PyHa05.bound raw && Ha05Neutral.asked (raw.map PyHa05.whole) && PyFlat.short 10000000 (PyHa05.answers ns)) = true := h
    rw [Bool.and_eq_true, Bool.and_eq_true, Bool.and_eq_true, Bool.and_eq_true] at h
    obtain ⟨⟨⟨⟨h1, h2⟩, h3⟩, h4⟩, h5⟩ := h
    rw [mw] at h4
    unfold Ha05Neutral.asked at h4
    rw [Bool.and_eq_true] at h4
    refine ⟨raw, rfl, List.all_eq_true.mp h4.1, of_decide_eq_true h2, ?_, of_decide_eq_true h5⟩
    unfold PyHa05.answers PyHa05.calls
    rw [e]
    show PyFlat.told (PyFlat.played Ha05Neutral.step Ha05Neutral.start (raw.map PyHa05.whole)) = _
    rw [mw]
theorem Good.of0 {n : Nat} {s : Ha05.St} (g : Good n s) (h : n ≤ 1000) : Good 1000 s := g.mono h
theorem ok_answers (T : Txt K mg c) {f : Addr} {fd : FuncData} (F : Fun K "answers" "answers" s_answers f fd) (k_World : Mak P w K mg base 1 "World" c.w (spWInit c)) (c_answer : Cal P w K mg base 10 "answer" (spAnswer c)) : FnOk P w K mg base CX0 11 f fd ["calls"] (spAns K) := by
  refine F.ok sc_answers (fun vs H Q E h => ?_) (fun cdv A outer s H vs Q E hr h => ?_)
  · obtain ⟨_, _, rfl, _⟩ := h; rfl
  · obtain ⟨a, ns, rfl, hS, hz, hask, hQ⟩ := h
    obtain ⟨raw, hraw, hall, l100, eans, lans⟩ := asked_is hask
    refine ⟨_, (pss_cons (ps_set (i := 1) sc_answers.nd rfl (Or.inl rfl) (pe_mk0 k_World hr (by decide) rfl))
    (pss_cons (ps_set (i := 2) sc_answers.nd rfl (Or.inl rfl) (pe_lst pa_nil))
    (pss_cons (ps_set (i := 3) sc_answers.nd rfl (Or.inl rfl) pe_int)
    (pss_cons (ps_while PassesOwn.never (pt_cmpR op_lt (pv 3) (pe_callB call_len_seq (by rfl) T.m_len PySem.boot_len (pa_cons (pv 0) pa_nil)) (nomark _))
    (pss_cons (ps_set (i := 4) sc_answers.nd rfl (Or.inl rfl) (pe_op op_add (pe_op op_add (pv 3) pe_int) (pe_ix ix_tup (pe_glob (v := .ref c.counts) rfl T.m_COUNTS rfl) (pe_ix ix_list (pv 0) (pv 3) (fun _ _ => rfl)) (fun _ _ => rfl))))
    (pss_cons (ps_set (i := 5) sc_answers.nd rfl (Or.inl rfl) (pe_c c_answer hr (by decide) rfl (pa_cons (pv 1) (pa_cons (pe_ix ix_list (pv 0) (pv 3) (fun _ _ => rfl)) (pa_cons (pe_slice sl_list (pv 0) (po_some (pe_op op_add (pv 3) pe_int)) (po_some (pv 4))) pa_nil)))))
    (pss_cons (ps_expr (pe_bm PySem.F.plainAttrs_list PySem.F.slot_list_append PySem.F.type_list_append mt_append (pv 2) (pa_cons (pe_callB call_len_seq (by rfl) T.m_len PySem.boot_len (pa_cons (pv 5) pa_nil)) pa_nil)))
    (pss_cons (ps_expr (pe_bm PySem.F.plainAttrs_list PySem.F.slot_list_extend PySem.F.type_list_extend mt_extend (pv 2) (pa_cons (pv 5) pa_nil)))
    (pss_one (ps_set (i := 3) sc_answers.nd rfl (Or.inl rfl) (pv 4))))))))
    (pss_one (ps_ret (pv 2))))))), ?_⟩
    intro x dx nx ndx nex
    refine ⟨x, dx, rfl, upd_same, fun L H1 ew eps fr hk R1 => ⟨rfl, ?_⟩⟩
    have sm1 : Same H H1 := fun b o e => hk b o (upd_keep (upd_new e ndx) (ne_of_none e nx)) (ne_of_none e nx)
    have fr1 : ∀ b ∈ L.ads, H b = none := fun b hb => by
      rcases fr b hb with e | e
      · rw [e]; exact nx
      · exact new_old (new_old e)
    refine ⟨Nat.zero_le _, fun tl ntl => ?_⟩
    have nH : H tl = none := sm1.free ntl
    rw [← ew]
    refine ⟨fun m σ H' => ∃ (k d f : Nat) (s : Ha05.St) (L' : Lay) (T' : List Int) (rest : List (List (List Int))) (v4 v5 : Option V), m = ns.length - k ∧ k ≤ ns.length ∧ σ = [some (.ref a), some (.ref L'.w), some (.ref tl), some (ni k), v4, v5] ∧
      WRep c H' L' s ∧ Good (2 * d) s ∧ d + rest.length ≤ 100 ∧ tl ∉ L'.ads ∧ H' tl = some (.lst (T'.map V.int)) ∧ Same H H' ∧ (∀ b ∈ L'.ads, H b = none) ∧ PyFlat.calls PyHa05.shape f (ns.drop k) = some rest ∧ (∀ x ∈ rest, Ha05Neutral.asked1 x = true) ∧
      PyHa05.answers ns = T' ++ PyFlat.told (PyFlat.played Ha05Neutral.step s rest),
      ⟨ns.length, 0, 0, ns.length, Ha05.init, L, [], raw, none, none, rfl, Nat.zero_le _, rfl, R1.new ntl, good_init, by omega, R1.out ntl, upd_same, same_new sm1 ntl, fr1, hraw, hall, eans⟩, ?_⟩
    rintro m σ H2 ⟨k, d, f, s, L', T', rest, v4, v5, rfl, hk', rfl, R2, G2, ld, ntl', htl, sm2, fr2, hcs, has, ea⟩
    have hS2 := sm2.seq hS
    have ln : (ns.map V.int).length = ns.length := List.length_map _
    refine ⟨_, rfl, _, rfl, a, _, rfl, .inl hS2, _, _, rfl, rfl, _, rfl, ?_⟩
    rw [ln]
    by_cases lt : k < ns.length
    · refine if_yes (decide_eq_true (by omega)) ?_
      have ed : ns.drop k = ns[k] :: ns.drop (k + 1) := List.drop_eq_getElem_cons lt
      rw [ed] at hcs
      obtain ⟨j, n, f', rest', ej, en, lnn, hcs', er⟩ := flat_step hcs
      have jlt : j < 19 := by
        have := (List.getElem?_eq_some_iff.mp en).1
        exact this
      obtain ⟨args, eargs⟩ : ∃ args, args = (ns.drop (k + 1)).take n := ⟨_, rfl⟩
      rw [← eargs, ej] at er
      have h1 := has _ (by rw [er]; exact List.mem_cons_self)
      obtain ⟨cl, hcl, hst, hpos⟩ := asked_call h1
      have largs : args.length = n := by rw [eargs, List.length_take]; omega
      have ldrop : (ns.drop (k + 1)).length = ns.length - (k + 1) := List.length_drop
      have hk1 : (ns.map V.int)[k]? = some (ni j) := by
        rw [List.getElem?_map, List.getElem?_eq_getElem lt, ej]
        rfl
      have hcnt : ([ni 1, ni 2, ni 2, ni 2, ni 2, ni 2, ni 2, ni 3, ni 2, ni 3, ni 2, ni 1, ni 1, ni 1, ni 0, ni 2, ni 2, ni 2, ni 0] : List V)[j]? = some (ni n) := by
        have : (cnts.map ni)[j]? = some (ni n) := by rw [List.getElem?_map, en]; rfl
        exact this
      refine ⟨_, fun σ' H' z => z, ?_⟩
      refine ⟨_, rfl, _, _, rfl, rfl, _, rfl, _, rfl, a, _, _, _, rfl, rfl, hS2, at_of (j := k) rfl hk1, c.counts, _, _, _, rfl, rfl, T.t_COUNTS H2, at_of (j := j) rfl hcnt, _, _, rfl, rfl, ?_⟩
      refine ⟨_, rfl, _, rfl, _, rfl, a, _, _, _, rfl, rfl, hS2, at_of (j := k) rfl hk1, _, rfl, _, rfl, _, _, rfl, rfl, _, rfl, _, rfl, _, rfl, a, _, rfl, hS2, fun r nr => ?_⟩
      have ecut : cutV (ns.map V.int) (some ((k : Int) + 1)) (some ((k : Int) + 1 + (n : Int))) = (args.map Int.toNat).map ni := by
        have e1 : ((k : Int) + 1) = ((k + 1 : Nat) : Int) := by omega
        have e2 : ((k : Int) + 1 + (n : Int)) = ((k + 1 + n : Nat) : Int) := by omega
        unfold cutV
        rw [e2, e1, HT.sIx_nat, HT.sIx_nat, ln, Nat.min_eq_left (by omega), Nat.min_eq_left (by omega), map_ni_int, toNat_ints hpos, eargs, List.map_take, List.map_drop, Nat.add_sub_cancel_left]
      have nrL : r ∉ L'.ads := R2.out nr
      have R3 := R2.new (o := .lst (cutV (ns.map V.int) (some ((k : Int) + 1)) (some ((k : Int) + 1 + (n : Int))))) nr
      refine ⟨L', s, j, args.map Int.toNat, cl, r, rfl, ?_, hcl, R3, G2.mono (by omega), fun L3 H3 u R4 S4 nu nuL hu => ?_⟩
      · rw [← ecut]
        exact upd_same
      · have ntr : tl ≠ r := ne_of_none htl nr
        have htl3 := S4.frame tl _ (upd_new htl nr) ntl'
        have ntl3 : tl ∉ L3.ads := S4.out (upd_new htl nr) ntl'
        have ntu : tl ≠ u := nu tl _ (upd_new htl nr) ntl'
        have sm3 : Same H H3 := fun b o e => S4.frame b o (upd_new (sm2 b o e) nr) fun m => by rw [fr2 b m] at e; cases e
        have fr3 : ∀ b ∈ L3.ads, H b = none := fun b hb => by
          rcases S4.fresh b hb with z | z
          · exact fr2 b z
          · cases q : H b with
            | none => rfl
            | some o =>
              rw [upd_new (sm2 b o q) nr] at z
              cases z
        have ea' : PyHa05.answers ns = (T' ++ ((((Ha05.step s cl).2.length : Nat) : Int) :: (Ha05.step s cl).2)) ++ PyFlat.told (PyFlat.played Ha05Neutral.step (Ha05.step s cl).1 rest') := by
          rw [ea, er]
          show T' ++ PyFlat.told ((Ha05Neutral.step s [(j : Int) :: args]).2 :: PyFlat.played Ha05Neutral.step (Ha05Neutral.step s [(j : Int) :: args]).1 rest') = _
          rw [hst s, told_cons, List.append_assoc]
        have lT : (T' ++ ((((Ha05.step s cl).2.length : Nat) : Int) :: (Ha05.step s cl).2)).length ≤ 10000000 := by
          have := congrArg List.length ea'
          rw [List.length_append] at this
          omega
        rw [List.length_append, List.length_cons] at lT
        refine ⟨_, rfl, .inl ⟨rfl, _, SqL.of htl3⟩, _, rfl, u, _, rfl, .inl (SqL.of hu), tl, _, _, rfl, rfl, htl3, ?_, ?_⟩
        · rw [List.length_map]
          exact Nat.lt_of_le_of_lt (show _ ≤ 10000000 by omega) (by decide)
        have hu5 := upd_keep (u := .lst (T'.map V.int ++ [V.int (((Ha05.step s cl).2.map V.int).length : Nat)])) hu (Ne.symm ntu)
        refine ⟨_, rfl, .inl ⟨rfl, _, SqL.of upd_same⟩, _, rfl, tl, u, _, _, rfl, rfl, upd_same, hu5, ?_, ?_⟩
        · rw [List.length_append, List.length_map, List.length_map]
          exact Nat.le_trans (show _ + 1 + _ ≤ 10000000 by omega) (by decide)
        refine ⟨_, rfl, ?_⟩
        have R5 : WRep c (upd (upd H3 tl (.lst (T'.map V.int ++ [V.int (((Ha05.step s cl).2.map V.int).length : Nat)]))) tl (.lst (T'.map V.int ++ [V.int (((Ha05.step s cl).2.map V.int).length : Nat)] ++ (Ha05.step s cl).2.map V.int))) L3 (Ha05.step s cl).1 := by
          refine (R4.upd ntl3 fun xs e => ?_).upd ntl3 fun xs e => ?_
          · rw [htl3] at e; cases e
          · rw [upd_same] at e; cases e
        have G3 : Good (2 * (d + 1)) (Ha05.step s cl).1 := good_step G2 cl
        refine ⟨ns.length - (k + 1 + n), by omega, k + 1 + n, d + 1, f', (Ha05.step s cl).1, L3, T' ++ ((((Ha05.step s cl).2.length : Nat) : Int) :: (Ha05.step s cl).2), rest', some (ni (k + 1 + n)), some (.ref u), rfl, by omega, ?_, R5, G3, ?_, ntl3, ?_, same_mut (same_mut sm3 nH) nH, fr3, ?_, ?_, ea'⟩
        · rw [S4.w]
          rfl
        · have := congrArg List.length er
          rw [List.length_cons] at this
          omega
        · rw [upd_same, List.map_append, List.map_cons, List.append_assoc, List.length_map]
          rfl
        · rw [List.drop_drop] at hcs'
          exact hcs'
        · intro z hz
          exact has z (by rw [er]; exact List.mem_cons_of_mem _ hz)
    · refine if_no (decide_eq_false (by omega)) ?_
      have ed : ns.drop k = [] := List.drop_eq_nil_of_le (by omega)
      rw [ed] at hcs
      have er := flat_nil hcs
      rw [er] at ea
      have ea2 : PyHa05.answers ns = T' := by
        rw [ea]
        show T' ++ [] = T'
        rw [List.append_nil]
      refine ⟨_, rfl, hQ H2 tl ?_⟩
      rw [ea2]
      exact htl
end
end PN
end
section
set_option maxRecDepth 100000
set_option maxHeartbeats 8000000
/-! The end: what the top has written. -/
namespace PN
open PySem PySem.Spec PyProof.Rows L2
theorem refs_vals : ∀ fs : List Addr, Vals (fs.map V.ref) (fs.map Value.ref)
  | [] => .nil
  | _ :: r => .cons rfl (refs_vals r)
theorem all_mk {P : Program} {w : World} {K : PySem.W.Frag} {h : Heap} {mg : Str → Option Value} {fa CP CW aCALLS aCOUNTS aLIVE : Addr}
    {f_comes_back f_wire_between f_word_arrives f_link_arrives f_cut_arrives f_heard_arrives f_ended_arrives f_stop_arrives f_watch_arrives f_unwatch_arrives f_gone_arrives f_arrives_at_ended f_counts f_arrive f_numbers_of_those_on f_lose_watched_by f_lose_watches f_lose_links f_notice_loss f_join_nodes f_one_if f_told_of_joined f_told_of_links f_told_of_process f_told_of_box f_told_of_air f_told_of_wires f_is_node f_process_refusal f_room_refusal f_air_refusal f_sending_refusal f_joining_refusal f_child_refusal f_wire_refusal f_start f_child f_link f_cut f_watch f_unwatch f_ends f_stop f_trap f_say f_place_of_first f_deliver f_turns f_box f_process f_air f_break_wire f_notice f_join f_wires f_answer f_answers f_Process_init f_Process_link_holds f_Process_end_with f_World_init f_World_has_process f_World_process f_World_new_process f_World_new_number f_World_new_connection f_World_send f_World_send_back f_World_end f_World_end_comes : Addr}
    {od_comes_back an_comes_back od_wire_between an_wire_between od_word_arrives an_word_arrives od_link_arrives an_link_arrives od_cut_arrives an_cut_arrives od_heard_arrives an_heard_arrives od_ended_arrives an_ended_arrives od_stop_arrives an_stop_arrives od_watch_arrives an_watch_arrives od_unwatch_arrives an_unwatch_arrives od_gone_arrives an_gone_arrives od_arrives_at_ended an_arrives_at_ended od_counts an_counts od_arrive an_arrive od_numbers_of_those_on an_numbers_of_those_on od_lose_watched_by an_lose_watched_by od_lose_watches an_lose_watches od_lose_links an_lose_links od_notice_loss an_notice_loss od_join_nodes an_join_nodes od_one_if an_one_if od_told_of_joined an_told_of_joined od_told_of_links an_told_of_links od_told_of_process an_told_of_process od_told_of_box an_told_of_box od_told_of_air an_told_of_air od_told_of_wires an_told_of_wires od_is_node an_is_node od_process_refusal an_process_refusal od_room_refusal an_room_refusal od_air_refusal an_air_refusal od_sending_refusal an_sending_refusal od_joining_refusal an_joining_refusal od_child_refusal an_child_refusal od_wire_refusal an_wire_refusal od_start an_start od_child an_child od_link an_link od_cut an_cut od_watch an_watch od_unwatch an_unwatch od_ends an_ends od_stop an_stop od_trap an_trap od_say an_say od_place_of_first an_place_of_first od_deliver an_deliver od_turns an_turns od_box an_box od_process an_process od_air an_air od_break_wire an_break_wire od_notice an_notice od_join an_join od_wires an_wires od_answer an_answer od_answers an_answers od_Process_init an_Process_init od_Process_link_holds an_Process_link_holds od_Process_end_with an_Process_end_with od_World_init an_World_init od_World_has_process an_World_has_process od_World_process an_World_process od_World_new_process an_World_new_process od_World_new_number an_World_new_number od_World_new_connection an_World_new_connection od_World_send an_World_send od_World_send_back an_World_send_back od_World_end an_World_end od_World_end_comes an_World_end_comes : Option Addr}
    {sl_comes_back sl_wire_between sl_word_arrives sl_link_arrives sl_cut_arrives sl_heard_arrives sl_ended_arrives sl_stop_arrives sl_watch_arrives sl_unwatch_arrives sl_gone_arrives sl_arrives_at_ended sl_counts sl_arrive sl_numbers_of_those_on sl_lose_watched_by sl_lose_watches sl_lose_links sl_notice_loss sl_join_nodes sl_one_if sl_told_of_joined sl_told_of_links sl_told_of_process sl_told_of_box sl_told_of_air sl_told_of_wires sl_is_node sl_process_refusal sl_room_refusal sl_air_refusal sl_sending_refusal sl_joining_refusal sl_child_refusal sl_wire_refusal sl_start sl_child sl_link sl_cut sl_watch sl_unwatch sl_ends sl_stop sl_trap sl_say sl_place_of_first sl_deliver sl_turns sl_box sl_process sl_air sl_break_wire sl_notice sl_join sl_wires sl_answer sl_answers sl_Process_init sl_Process_link_holds sl_Process_end_with sl_World_init sl_World_has_process sl_World_process sl_World_new_process sl_World_new_number sl_World_new_connection sl_World_send sl_World_send_back sl_World_end sl_World_end_comes : Array (Option Value)}
    {oc_comes_back kV_comes_back dc_comes_back pm_comes_back cd_comes_back ct_comes_back oc_wire_between kV_wire_between dc_wire_between pm_wire_between cd_wire_between ct_wire_between oc_word_arrives kV_word_arrives dc_word_arrives pm_word_arrives cd_word_arrives ct_word_arrives oc_link_arrives kV_link_arrives dc_link_arrives pm_link_arrives cd_link_arrives ct_link_arrives oc_cut_arrives kV_cut_arrives dc_cut_arrives pm_cut_arrives cd_cut_arrives ct_cut_arrives oc_heard_arrives kV_heard_arrives dc_heard_arrives pm_heard_arrives cd_heard_arrives ct_heard_arrives oc_ended_arrives kV_ended_arrives dc_ended_arrives pm_ended_arrives cd_ended_arrives ct_ended_arrives oc_stop_arrives kV_stop_arrives dc_stop_arrives pm_stop_arrives cd_stop_arrives ct_stop_arrives oc_watch_arrives kV_watch_arrives dc_watch_arrives pm_watch_arrives cd_watch_arrives ct_watch_arrives oc_unwatch_arrives kV_unwatch_arrives dc_unwatch_arrives pm_unwatch_arrives cd_unwatch_arrives ct_unwatch_arrives oc_gone_arrives kV_gone_arrives dc_gone_arrives pm_gone_arrives cd_gone_arrives ct_gone_arrives oc_arrives_at_ended kV_arrives_at_ended dc_arrives_at_ended pm_arrives_at_ended cd_arrives_at_ended ct_arrives_at_ended oc_counts kV_counts dc_counts pm_counts cd_counts ct_counts oc_arrive kV_arrive dc_arrive pm_arrive cd_arrive ct_arrive oc_numbers_of_those_on kV_numbers_of_those_on dc_numbers_of_those_on pm_numbers_of_those_on cd_numbers_of_those_on ct_numbers_of_those_on oc_lose_watched_by kV_lose_watched_by dc_lose_watched_by pm_lose_watched_by cd_lose_watched_by ct_lose_watched_by oc_lose_watches kV_lose_watches dc_lose_watches pm_lose_watches cd_lose_watches ct_lose_watches oc_lose_links kV_lose_links dc_lose_links pm_lose_links cd_lose_links ct_lose_links oc_notice_loss kV_notice_loss dc_notice_loss pm_notice_loss cd_notice_loss ct_notice_loss oc_join_nodes kV_join_nodes dc_join_nodes pm_join_nodes cd_join_nodes ct_join_nodes oc_one_if kV_one_if dc_one_if pm_one_if cd_one_if ct_one_if oc_told_of_joined kV_told_of_joined dc_told_of_joined pm_told_of_joined cd_told_of_joined ct_told_of_joined oc_told_of_links kV_told_of_links dc_told_of_links pm_told_of_links cd_told_of_links ct_told_of_links oc_told_of_process kV_told_of_process dc_told_of_process pm_told_of_process cd_told_of_process ct_told_of_process oc_told_of_box kV_told_of_box dc_told_of_box pm_told_of_box cd_told_of_box ct_told_of_box oc_told_of_air kV_told_of_air dc_told_of_air pm_told_of_air cd_told_of_air ct_told_of_air oc_told_of_wires kV_told_of_wires dc_told_of_wires pm_told_of_wires cd_told_of_wires ct_told_of_wires oc_is_node kV_is_node dc_is_node pm_is_node cd_is_node ct_is_node oc_process_refusal kV_process_refusal dc_process_refusal pm_process_refusal cd_process_refusal ct_process_refusal oc_room_refusal kV_room_refusal dc_room_refusal pm_room_refusal cd_room_refusal ct_room_refusal oc_air_refusal kV_air_refusal dc_air_refusal pm_air_refusal cd_air_refusal ct_air_refusal oc_sending_refusal kV_sending_refusal dc_sending_refusal pm_sending_refusal cd_sending_refusal ct_sending_refusal oc_joining_refusal kV_joining_refusal dc_joining_refusal pm_joining_refusal cd_joining_refusal ct_joining_refusal oc_child_refusal kV_child_refusal dc_child_refusal pm_child_refusal cd_child_refusal ct_child_refusal oc_wire_refusal kV_wire_refusal dc_wire_refusal pm_wire_refusal cd_wire_refusal ct_wire_refusal oc_start kV_start dc_start pm_start cd_start ct_start oc_child kV_child dc_child pm_child cd_child ct_child oc_link kV_link dc_link pm_link cd_link ct_link oc_cut kV_cut dc_cut pm_cut cd_cut ct_cut oc_watch kV_watch dc_watch pm_watch cd_watch ct_watch oc_unwatch kV_unwatch dc_unwatch pm_unwatch cd_unwatch ct_unwatch oc_ends kV_ends dc_ends pm_ends cd_ends ct_ends oc_stop kV_stop dc_stop pm_stop cd_stop ct_stop oc_trap kV_trap dc_trap pm_trap cd_trap ct_trap oc_say kV_say dc_say pm_say cd_say ct_say oc_place_of_first kV_place_of_first dc_place_of_first pm_place_of_first cd_place_of_first ct_place_of_first oc_deliver kV_deliver dc_deliver pm_deliver cd_deliver ct_deliver oc_turns kV_turns dc_turns pm_turns cd_turns ct_turns oc_box kV_box dc_box pm_box cd_box ct_box oc_process kV_process dc_process pm_process cd_process ct_process oc_air kV_air dc_air pm_air cd_air ct_air oc_break_wire kV_break_wire dc_break_wire pm_break_wire cd_break_wire ct_break_wire oc_notice kV_notice dc_notice pm_notice cd_notice ct_notice oc_join kV_join dc_join pm_join cd_join ct_join oc_wires kV_wires dc_wires pm_wires cd_wires ct_wires oc_answer kV_answer dc_answer pm_answer cd_answer ct_answer oc_answers kV_answers dc_answers pm_answers cd_answers ct_answers oc_Process_init kV_Process_init dc_Process_init pm_Process_init cd_Process_init ct_Process_init oc_Process_link_holds kV_Process_link_holds dc_Process_link_holds pm_Process_link_holds cd_Process_link_holds ct_Process_link_holds oc_Process_end_with kV_Process_end_with dc_Process_end_with pm_Process_end_with cd_Process_end_with ct_Process_end_with oc_World_init kV_World_init dc_World_init pm_World_init cd_World_init ct_World_init oc_World_has_process kV_World_has_process dc_World_has_process pm_World_has_process cd_World_has_process ct_World_has_process oc_World_process kV_World_process dc_World_process pm_World_process cd_World_process ct_World_process oc_World_new_process kV_World_new_process dc_World_new_process pm_World_new_process cd_World_new_process ct_World_new_process oc_World_new_number kV_World_new_number dc_World_new_number pm_World_new_number cd_World_new_number ct_World_new_number oc_World_new_connection kV_World_new_connection dc_World_new_connection pm_World_new_connection cd_World_new_connection ct_World_new_connection oc_World_send kV_World_send dc_World_send pm_World_send cd_World_send ct_World_send oc_World_send_back kV_World_send_back dc_World_send_back pm_World_send_back cd_World_send_back ct_World_send_back oc_World_end kV_World_end dc_World_end pm_World_end cd_World_end ct_World_end oc_World_end_comes kV_World_end_comes dc_World_end_comes pm_World_end_comes cd_World_end_comes ct_World_end_comes : Value}
    {tk_HOLDS tk_WORD_CAME tk_LINKED_ONE_ENDED tk_WATCHED_ONE_ENDED tk_END_WAS_SENT tk_WORD tk_LINK tk_CUT tk_HEARD tk_ENDED tk_STOP tk_WATCH tk_UNWATCH tk_GONE tk_AS_IT_SHOULD tk_TO_BE_KILLED tk_KILLED tk_NOBODY_THERE tk_CONNECTION_LOST tk_NO_CONNECTION tk_WITHIN_A_NODE tk_FITS tk_NO_SUCH tk_NOT_SO_NOW tk_NONE_ON_ITS_WAY tk_TOO_MANY tk_HAS_ENDED tk_NODES tk_MOST_PROCESSES tk_MOST_SIGNALS tk_MOST_TURNS tk_GREATEST_WHY tk_LINKED tk_WATCHED tc0 tc1 tc2 tc3 tc4 tc5 tc6 tc7 tc8 tc9 tc10 tc11 tc12 tc13 tc14 tc15 tc16 tc17 tc18 : Tok}
    {odA odB odC : Option Addr} {nA nB nC : Nat} {slA slB slC : Array (Option Value)}
    (X : K.In h) (G : h.Ns mainGlobals mg) (hfa : mg "answers" = some (.ref fa))
    (aP : PySem.W.nsIn K mainGlobals "Process" = some (some (.ref CP)))
    (aW : PySem.W.nsIn K mainGlobals "World" = some (some (.ref CW)))
    (a_comes_back : PySem.W.nsIn K mainGlobals "comes_back" = some (some (.ref f_comes_back)))
    (l_comes_back : K.lookup f_comes_back = some ⟨oc_comes_back, od_comes_back, .func (PySem.W.fnOf "comes_back" "comes_back" (defArgs s_comes_back) (defBody s_comes_back) (defScope s_comes_back) .none kV_comes_back dc_comes_back pm_comes_back an_comes_back cd_comes_back ct_comes_back), sl_comes_back⟩)
    (c_comes_back : PySem.W.codeIn K cd_comes_back "comes_back" = true)
    (k_comes_back : PySem.W.keepIn K (.ref f_comes_back) = true)
    (a_wire_between : PySem.W.nsIn K mainGlobals "wire_between" = some (some (.ref f_wire_between)))
    (l_wire_between : K.lookup f_wire_between = some ⟨oc_wire_between, od_wire_between, .func (PySem.W.fnOf "wire_between" "wire_between" (defArgs s_wire_between) (defBody s_wire_between) (defScope s_wire_between) .none kV_wire_between dc_wire_between pm_wire_between an_wire_between cd_wire_between ct_wire_between), sl_wire_between⟩)
    (c_wire_between : PySem.W.codeIn K cd_wire_between "wire_between" = true)
    (k_wire_between : PySem.W.keepIn K (.ref f_wire_between) = true)
    (a_word_arrives : PySem.W.nsIn K mainGlobals "word_arrives" = some (some (.ref f_word_arrives)))
    (l_word_arrives : K.lookup f_word_arrives = some ⟨oc_word_arrives, od_word_arrives, .func (PySem.W.fnOf "word_arrives" "word_arrives" (defArgs s_word_arrives) (defBody s_word_arrives) (defScope s_word_arrives) .none kV_word_arrives dc_word_arrives pm_word_arrives an_word_arrives cd_word_arrives ct_word_arrives), sl_word_arrives⟩)
    (c_word_arrives : PySem.W.codeIn K cd_word_arrives "word_arrives" = true)
    (k_word_arrives : PySem.W.keepIn K (.ref f_word_arrives) = true)
    (a_link_arrives : PySem.W.nsIn K mainGlobals "link_arrives" = some (some (.ref f_link_arrives)))
    (l_link_arrives : K.lookup f_link_arrives = some ⟨oc_link_arrives, od_link_arrives, .func (PySem.W.fnOf "link_arrives" "link_arrives" (defArgs s_link_arrives) (defBody s_link_arrives) (defScope s_link_arrives) .none kV_link_arrives dc_link_arrives pm_link_arrives an_link_arrives cd_link_arrives ct_link_arrives), sl_link_arrives⟩)
    (c_link_arrives : PySem.W.codeIn K cd_link_arrives "link_arrives" = true)
    (k_link_arrives : PySem.W.keepIn K (.ref f_link_arrives) = true)
    (a_cut_arrives : PySem.W.nsIn K mainGlobals "cut_arrives" = some (some (.ref f_cut_arrives)))
    (l_cut_arrives : K.lookup f_cut_arrives = some ⟨oc_cut_arrives, od_cut_arrives, .func (PySem.W.fnOf "cut_arrives" "cut_arrives" (defArgs s_cut_arrives) (defBody s_cut_arrives) (defScope s_cut_arrives) .none kV_cut_arrives dc_cut_arrives pm_cut_arrives an_cut_arrives cd_cut_arrives ct_cut_arrives), sl_cut_arrives⟩)
    (c_cut_arrives : PySem.W.codeIn K cd_cut_arrives "cut_arrives" = true)
    (k_cut_arrives : PySem.W.keepIn K (.ref f_cut_arrives) = true)
    (a_heard_arrives : PySem.W.nsIn K mainGlobals "heard_arrives" = some (some (.ref f_heard_arrives)))
    (l_heard_arrives : K.lookup f_heard_arrives = some ⟨oc_heard_arrives, od_heard_arrives, .func (PySem.W.fnOf "heard_arrives" "heard_arrives" (defArgs s_heard_arrives) (defBody s_heard_arrives) (defScope s_heard_arrives) .none kV_heard_arrives dc_heard_arrives pm_heard_arrives an_heard_arrives cd_heard_arrives ct_heard_arrives), sl_heard_arrives⟩)
    (c_heard_arrives : PySem.W.codeIn K cd_heard_arrives "heard_arrives" = true)
    (k_heard_arrives : PySem.W.keepIn K (.ref f_heard_arrives) = true)
    (a_ended_arrives : PySem.W.nsIn K mainGlobals "ended_arrives" = some (some (.ref f_ended_arrives)))
    (l_ended_arrives : K.lookup f_ended_arrives = some ⟨oc_ended_arrives, od_ended_arrives, .func (PySem.W.fnOf "ended_arrives" "ended_arrives" (defArgs s_ended_arrives) (defBody s_ended_arrives) (defScope s_ended_arrives) .none kV_ended_arrives dc_ended_arrives pm_ended_arrives an_ended_arrives cd_ended_arrives ct_ended_arrives), sl_ended_arrives⟩)
    (c_ended_arrives : PySem.W.codeIn K cd_ended_arrives "ended_arrives" = true)
    (k_ended_arrives : PySem.W.keepIn K (.ref f_ended_arrives) = true)
    (a_stop_arrives : PySem.W.nsIn K mainGlobals "stop_arrives" = some (some (.ref f_stop_arrives)))
    (l_stop_arrives : K.lookup f_stop_arrives = some ⟨oc_stop_arrives, od_stop_arrives, .func (PySem.W.fnOf "stop_arrives" "stop_arrives" (defArgs s_stop_arrives) (defBody s_stop_arrives) (defScope s_stop_arrives) .none kV_stop_arrives dc_stop_arrives pm_stop_arrives an_stop_arrives cd_stop_arrives ct_stop_arrives), sl_stop_arrives⟩)
    (c_stop_arrives : PySem.W.codeIn K cd_stop_arrives "stop_arrives" = true)
    (k_stop_arrives : PySem.W.keepIn K (.ref f_stop_arrives) = true)
    (a_watch_arrives : PySem.W.nsIn K mainGlobals "watch_arrives" = some (some (.ref f_watch_arrives)))
    (l_watch_arrives : K.lookup f_watch_arrives = some ⟨oc_watch_arrives, od_watch_arrives, .func (PySem.W.fnOf "watch_arrives" "watch_arrives" (defArgs s_watch_arrives) (defBody s_watch_arrives) (defScope s_watch_arrives) .none kV_watch_arrives dc_watch_arrives pm_watch_arrives an_watch_arrives cd_watch_arrives ct_watch_arrives), sl_watch_arrives⟩)
    (c_watch_arrives : PySem.W.codeIn K cd_watch_arrives "watch_arrives" = true)
    (k_watch_arrives : PySem.W.keepIn K (.ref f_watch_arrives) = true)
    (a_unwatch_arrives : PySem.W.nsIn K mainGlobals "unwatch_arrives" = some (some (.ref f_unwatch_arrives)))
    (l_unwatch_arrives : K.lookup f_unwatch_arrives = some ⟨oc_unwatch_arrives, od_unwatch_arrives, .func (PySem.W.fnOf "unwatch_arrives" "unwatch_arrives" (defArgs s_unwatch_arrives) (defBody s_unwatch_arrives) (defScope s_unwatch_arrives) .none kV_unwatch_arrives dc_unwatch_arrives pm_unwatch_arrives an_unwatch_arrives cd_unwatch_arrives ct_unwatch_arrives), sl_unwatch_arrives⟩)
    (c_unwatch_arrives : PySem.W.codeIn K cd_unwatch_arrives "unwatch_arrives" = true)
    (k_unwatch_arrives : PySem.W.keepIn K (.ref f_unwatch_arrives) = true)
    (a_gone_arrives : PySem.W.nsIn K mainGlobals "gone_arrives" = some (some (.ref f_gone_arrives)))
    (l_gone_arrives : K.lookup f_gone_arrives = some ⟨oc_gone_arrives, od_gone_arrives, .func (PySem.W.fnOf "gone_arrives" "gone_arrives" (defArgs s_gone_arrives) (defBody s_gone_arrives) (defScope s_gone_arrives) .none kV_gone_arrives dc_gone_arrives pm_gone_arrives an_gone_arrives cd_gone_arrives ct_gone_arrives), sl_gone_arrives⟩)
    (c_gone_arrives : PySem.W.codeIn K cd_gone_arrives "gone_arrives" = true)
    (k_gone_arrives : PySem.W.keepIn K (.ref f_gone_arrives) = true)
    (a_arrives_at_ended : PySem.W.nsIn K mainGlobals "arrives_at_ended" = some (some (.ref f_arrives_at_ended)))
    (l_arrives_at_ended : K.lookup f_arrives_at_ended = some ⟨oc_arrives_at_ended, od_arrives_at_ended, .func (PySem.W.fnOf "arrives_at_ended" "arrives_at_ended" (defArgs s_arrives_at_ended) (defBody s_arrives_at_ended) (defScope s_arrives_at_ended) .none kV_arrives_at_ended dc_arrives_at_ended pm_arrives_at_ended an_arrives_at_ended cd_arrives_at_ended ct_arrives_at_ended), sl_arrives_at_ended⟩)
    (c_arrives_at_ended : PySem.W.codeIn K cd_arrives_at_ended "arrives_at_ended" = true)
    (k_arrives_at_ended : PySem.W.keepIn K (.ref f_arrives_at_ended) = true)
    (a_counts : PySem.W.nsIn K mainGlobals "counts" = some (some (.ref f_counts)))
    (l_counts : K.lookup f_counts = some ⟨oc_counts, od_counts, .func (PySem.W.fnOf "counts" "counts" (defArgs s_counts) (defBody s_counts) (defScope s_counts) .none kV_counts dc_counts pm_counts an_counts cd_counts ct_counts), sl_counts⟩)
    (c_counts : PySem.W.codeIn K cd_counts "counts" = true)
    (k_counts : PySem.W.keepIn K (.ref f_counts) = true)
    (a_arrive : PySem.W.nsIn K mainGlobals "arrive" = some (some (.ref f_arrive)))
    (l_arrive : K.lookup f_arrive = some ⟨oc_arrive, od_arrive, .func (PySem.W.fnOf "arrive" "arrive" (defArgs s_arrive) (defBody s_arrive) (defScope s_arrive) .none kV_arrive dc_arrive pm_arrive an_arrive cd_arrive ct_arrive), sl_arrive⟩)
    (c_arrive : PySem.W.codeIn K cd_arrive "arrive" = true)
    (k_arrive : PySem.W.keepIn K (.ref f_arrive) = true)
    (a_numbers_of_those_on : PySem.W.nsIn K mainGlobals "numbers_of_those_on" = some (some (.ref f_numbers_of_those_on)))
    (l_numbers_of_those_on : K.lookup f_numbers_of_those_on = some ⟨oc_numbers_of_those_on, od_numbers_of_those_on, .func (PySem.W.fnOf "numbers_of_those_on" "numbers_of_those_on" (defArgs s_numbers_of_those_on) (defBody s_numbers_of_those_on) (defScope s_numbers_of_those_on) .none kV_numbers_of_those_on dc_numbers_of_those_on pm_numbers_of_those_on an_numbers_of_those_on cd_numbers_of_those_on ct_numbers_of_those_on), sl_numbers_of_those_on⟩)
    (c_numbers_of_those_on : PySem.W.codeIn K cd_numbers_of_those_on "numbers_of_those_on" = true)
    (k_numbers_of_those_on : PySem.W.keepIn K (.ref f_numbers_of_those_on) = true)
    (a_lose_watched_by : PySem.W.nsIn K mainGlobals "lose_watched_by" = some (some (.ref f_lose_watched_by)))
    (l_lose_watched_by : K.lookup f_lose_watched_by = some ⟨oc_lose_watched_by, od_lose_watched_by, .func (PySem.W.fnOf "lose_watched_by" "lose_watched_by" (defArgs s_lose_watched_by) (defBody s_lose_watched_by) (defScope s_lose_watched_by) .none kV_lose_watched_by dc_lose_watched_by pm_lose_watched_by an_lose_watched_by cd_lose_watched_by ct_lose_watched_by), sl_lose_watched_by⟩)
    (c_lose_watched_by : PySem.W.codeIn K cd_lose_watched_by "lose_watched_by" = true)
    (k_lose_watched_by : PySem.W.keepIn K (.ref f_lose_watched_by) = true)
    (a_lose_watches : PySem.W.nsIn K mainGlobals "lose_watches" = some (some (.ref f_lose_watches)))
    (l_lose_watches : K.lookup f_lose_watches = some ⟨oc_lose_watches, od_lose_watches, .func (PySem.W.fnOf "lose_watches" "lose_watches" (defArgs s_lose_watches) (defBody s_lose_watches) (defScope s_lose_watches) .none kV_lose_watches dc_lose_watches pm_lose_watches an_lose_watches cd_lose_watches ct_lose_watches), sl_lose_watches⟩)
    (c_lose_watches : PySem.W.codeIn K cd_lose_watches "lose_watches" = true)
    (k_lose_watches : PySem.W.keepIn K (.ref f_lose_watches) = true)
    (a_lose_links : PySem.W.nsIn K mainGlobals "lose_links" = some (some (.ref f_lose_links)))
    (l_lose_links : K.lookup f_lose_links = some ⟨oc_lose_links, od_lose_links, .func (PySem.W.fnOf "lose_links" "lose_links" (defArgs s_lose_links) (defBody s_lose_links) (defScope s_lose_links) .none kV_lose_links dc_lose_links pm_lose_links an_lose_links cd_lose_links ct_lose_links), sl_lose_links⟩)
    (c_lose_links : PySem.W.codeIn K cd_lose_links "lose_links" = true)
    (k_lose_links : PySem.W.keepIn K (.ref f_lose_links) = true)
    (a_notice_loss : PySem.W.nsIn K mainGlobals "notice_loss" = some (some (.ref f_notice_loss)))
    (l_notice_loss : K.lookup f_notice_loss = some ⟨oc_notice_loss, od_notice_loss, .func (PySem.W.fnOf "notice_loss" "notice_loss" (defArgs s_notice_loss) (defBody s_notice_loss) (defScope s_notice_loss) .none kV_notice_loss dc_notice_loss pm_notice_loss an_notice_loss cd_notice_loss ct_notice_loss), sl_notice_loss⟩)
    (c_notice_loss : PySem.W.codeIn K cd_notice_loss "notice_loss" = true)
    (k_notice_loss : PySem.W.keepIn K (.ref f_notice_loss) = true)
    (a_join_nodes : PySem.W.nsIn K mainGlobals "join_nodes" = some (some (.ref f_join_nodes)))
    (l_join_nodes : K.lookup f_join_nodes = some ⟨oc_join_nodes, od_join_nodes, .func (PySem.W.fnOf "join_nodes" "join_nodes" (defArgs s_join_nodes) (defBody s_join_nodes) (defScope s_join_nodes) .none kV_join_nodes dc_join_nodes pm_join_nodes an_join_nodes cd_join_nodes ct_join_nodes), sl_join_nodes⟩)
    (c_join_nodes : PySem.W.codeIn K cd_join_nodes "join_nodes" = true)
    (k_join_nodes : PySem.W.keepIn K (.ref f_join_nodes) = true)
    (a_one_if : PySem.W.nsIn K mainGlobals "one_if" = some (some (.ref f_one_if)))
    (l_one_if : K.lookup f_one_if = some ⟨oc_one_if, od_one_if, .func (PySem.W.fnOf "one_if" "one_if" (defArgs s_one_if) (defBody s_one_if) (defScope s_one_if) .none kV_one_if dc_one_if pm_one_if an_one_if cd_one_if ct_one_if), sl_one_if⟩)
    (c_one_if : PySem.W.codeIn K cd_one_if "one_if" = true)
    (k_one_if : PySem.W.keepIn K (.ref f_one_if) = true)
    (a_told_of_joined : PySem.W.nsIn K mainGlobals "told_of_joined" = some (some (.ref f_told_of_joined)))
    (l_told_of_joined : K.lookup f_told_of_joined = some ⟨oc_told_of_joined, od_told_of_joined, .func (PySem.W.fnOf "told_of_joined" "told_of_joined" (defArgs s_told_of_joined) (defBody s_told_of_joined) (defScope s_told_of_joined) .none kV_told_of_joined dc_told_of_joined pm_told_of_joined an_told_of_joined cd_told_of_joined ct_told_of_joined), sl_told_of_joined⟩)
    (c_told_of_joined : PySem.W.codeIn K cd_told_of_joined "told_of_joined" = true)
    (k_told_of_joined : PySem.W.keepIn K (.ref f_told_of_joined) = true)
    (a_told_of_links : PySem.W.nsIn K mainGlobals "told_of_links" = some (some (.ref f_told_of_links)))
    (l_told_of_links : K.lookup f_told_of_links = some ⟨oc_told_of_links, od_told_of_links, .func (PySem.W.fnOf "told_of_links" "told_of_links" (defArgs s_told_of_links) (defBody s_told_of_links) (defScope s_told_of_links) .none kV_told_of_links dc_told_of_links pm_told_of_links an_told_of_links cd_told_of_links ct_told_of_links), sl_told_of_links⟩)
    (c_told_of_links : PySem.W.codeIn K cd_told_of_links "told_of_links" = true)
    (k_told_of_links : PySem.W.keepIn K (.ref f_told_of_links) = true)
    (a_told_of_process : PySem.W.nsIn K mainGlobals "told_of_process" = some (some (.ref f_told_of_process)))
    (l_told_of_process : K.lookup f_told_of_process = some ⟨oc_told_of_process, od_told_of_process, .func (PySem.W.fnOf "told_of_process" "told_of_process" (defArgs s_told_of_process) (defBody s_told_of_process) (defScope s_told_of_process) .none kV_told_of_process dc_told_of_process pm_told_of_process an_told_of_process cd_told_of_process ct_told_of_process), sl_told_of_process⟩)
    (c_told_of_process : PySem.W.codeIn K cd_told_of_process "told_of_process" = true)
    (k_told_of_process : PySem.W.keepIn K (.ref f_told_of_process) = true)
    (a_told_of_box : PySem.W.nsIn K mainGlobals "told_of_box" = some (some (.ref f_told_of_box)))
    (l_told_of_box : K.lookup f_told_of_box = some ⟨oc_told_of_box, od_told_of_box, .func (PySem.W.fnOf "told_of_box" "told_of_box" (defArgs s_told_of_box) (defBody s_told_of_box) (defScope s_told_of_box) .none kV_told_of_box dc_told_of_box pm_told_of_box an_told_of_box cd_told_of_box ct_told_of_box), sl_told_of_box⟩)
    (c_told_of_box : PySem.W.codeIn K cd_told_of_box "told_of_box" = true)
    (k_told_of_box : PySem.W.keepIn K (.ref f_told_of_box) = true)
    (a_told_of_air : PySem.W.nsIn K mainGlobals "told_of_air" = some (some (.ref f_told_of_air)))
    (l_told_of_air : K.lookup f_told_of_air = some ⟨oc_told_of_air, od_told_of_air, .func (PySem.W.fnOf "told_of_air" "told_of_air" (defArgs s_told_of_air) (defBody s_told_of_air) (defScope s_told_of_air) .none kV_told_of_air dc_told_of_air pm_told_of_air an_told_of_air cd_told_of_air ct_told_of_air), sl_told_of_air⟩)
    (c_told_of_air : PySem.W.codeIn K cd_told_of_air "told_of_air" = true)
    (k_told_of_air : PySem.W.keepIn K (.ref f_told_of_air) = true)
    (a_told_of_wires : PySem.W.nsIn K mainGlobals "told_of_wires" = some (some (.ref f_told_of_wires)))
    (l_told_of_wires : K.lookup f_told_of_wires = some ⟨oc_told_of_wires, od_told_of_wires, .func (PySem.W.fnOf "told_of_wires" "told_of_wires" (defArgs s_told_of_wires) (defBody s_told_of_wires) (defScope s_told_of_wires) .none kV_told_of_wires dc_told_of_wires pm_told_of_wires an_told_of_wires cd_told_of_wires ct_told_of_wires), sl_told_of_wires⟩)
    (c_told_of_wires : PySem.W.codeIn K cd_told_of_wires "told_of_wires" = true)
    (k_told_of_wires : PySem.W.keepIn K (.ref f_told_of_wires) = true)
    (a_is_node : PySem.W.nsIn K mainGlobals "is_node" = some (some (.ref f_is_node)))
    (l_is_node : K.lookup f_is_node = some ⟨oc_is_node, od_is_node, .func (PySem.W.fnOf "is_node" "is_node" (defArgs s_is_node) (defBody s_is_node) (defScope s_is_node) .none kV_is_node dc_is_node pm_is_node an_is_node cd_is_node ct_is_node), sl_is_node⟩)
    (c_is_node : PySem.W.codeIn K cd_is_node "is_node" = true)
    (k_is_node : PySem.W.keepIn K (.ref f_is_node) = true)
    (a_process_refusal : PySem.W.nsIn K mainGlobals "process_refusal" = some (some (.ref f_process_refusal)))
    (l_process_refusal : K.lookup f_process_refusal = some ⟨oc_process_refusal, od_process_refusal, .func (PySem.W.fnOf "process_refusal" "process_refusal" (defArgs s_process_refusal) (defBody s_process_refusal) (defScope s_process_refusal) .none kV_process_refusal dc_process_refusal pm_process_refusal an_process_refusal cd_process_refusal ct_process_refusal), sl_process_refusal⟩)
    (c_process_refusal : PySem.W.codeIn K cd_process_refusal "process_refusal" = true)
    (k_process_refusal : PySem.W.keepIn K (.ref f_process_refusal) = true)
    (a_room_refusal : PySem.W.nsIn K mainGlobals "room_refusal" = some (some (.ref f_room_refusal)))
    (l_room_refusal : K.lookup f_room_refusal = some ⟨oc_room_refusal, od_room_refusal, .func (PySem.W.fnOf "room_refusal" "room_refusal" (defArgs s_room_refusal) (defBody s_room_refusal) (defScope s_room_refusal) .none kV_room_refusal dc_room_refusal pm_room_refusal an_room_refusal cd_room_refusal ct_room_refusal), sl_room_refusal⟩)
    (c_room_refusal : PySem.W.codeIn K cd_room_refusal "room_refusal" = true)
    (k_room_refusal : PySem.W.keepIn K (.ref f_room_refusal) = true)
    (a_air_refusal : PySem.W.nsIn K mainGlobals "air_refusal" = some (some (.ref f_air_refusal)))
    (l_air_refusal : K.lookup f_air_refusal = some ⟨oc_air_refusal, od_air_refusal, .func (PySem.W.fnOf "air_refusal" "air_refusal" (defArgs s_air_refusal) (defBody s_air_refusal) (defScope s_air_refusal) .none kV_air_refusal dc_air_refusal pm_air_refusal an_air_refusal cd_air_refusal ct_air_refusal), sl_air_refusal⟩)
    (c_air_refusal : PySem.W.codeIn K cd_air_refusal "air_refusal" = true)
    (k_air_refusal : PySem.W.keepIn K (.ref f_air_refusal) = true)
    (a_sending_refusal : PySem.W.nsIn K mainGlobals "sending_refusal" = some (some (.ref f_sending_refusal)))
    (l_sending_refusal : K.lookup f_sending_refusal = some ⟨oc_sending_refusal, od_sending_refusal, .func (PySem.W.fnOf "sending_refusal" "sending_refusal" (defArgs s_sending_refusal) (defBody s_sending_refusal) (defScope s_sending_refusal) .none kV_sending_refusal dc_sending_refusal pm_sending_refusal an_sending_refusal cd_sending_refusal ct_sending_refusal), sl_sending_refusal⟩)
    (c_sending_refusal : PySem.W.codeIn K cd_sending_refusal "sending_refusal" = true)
    (k_sending_refusal : PySem.W.keepIn K (.ref f_sending_refusal) = true)
    (a_joining_refusal : PySem.W.nsIn K mainGlobals "joining_refusal" = some (some (.ref f_joining_refusal)))
    (l_joining_refusal : K.lookup f_joining_refusal = some ⟨oc_joining_refusal, od_joining_refusal, .func (PySem.W.fnOf "joining_refusal" "joining_refusal" (defArgs s_joining_refusal) (defBody s_joining_refusal) (defScope s_joining_refusal) .none kV_joining_refusal dc_joining_refusal pm_joining_refusal an_joining_refusal cd_joining_refusal ct_joining_refusal), sl_joining_refusal⟩)
    (c_joining_refusal : PySem.W.codeIn K cd_joining_refusal "joining_refusal" = true)
    (k_joining_refusal : PySem.W.keepIn K (.ref f_joining_refusal) = true)
    (a_child_refusal : PySem.W.nsIn K mainGlobals "child_refusal" = some (some (.ref f_child_refusal)))
    (l_child_refusal : K.lookup f_child_refusal = some ⟨oc_child_refusal, od_child_refusal, .func (PySem.W.fnOf "child_refusal" "child_refusal" (defArgs s_child_refusal) (defBody s_child_refusal) (defScope s_child_refusal) .none kV_child_refusal dc_child_refusal pm_child_refusal an_child_refusal cd_child_refusal ct_child_refusal), sl_child_refusal⟩)
    (c_child_refusal : PySem.W.codeIn K cd_child_refusal "child_refusal" = true)
    (k_child_refusal : PySem.W.keepIn K (.ref f_child_refusal) = true)
    (a_wire_refusal : PySem.W.nsIn K mainGlobals "wire_refusal" = some (some (.ref f_wire_refusal)))
    (l_wire_refusal : K.lookup f_wire_refusal = some ⟨oc_wire_refusal, od_wire_refusal, .func (PySem.W.fnOf "wire_refusal" "wire_refusal" (defArgs s_wire_refusal) (defBody s_wire_refusal) (defScope s_wire_refusal) .none kV_wire_refusal dc_wire_refusal pm_wire_refusal an_wire_refusal cd_wire_refusal ct_wire_refusal), sl_wire_refusal⟩)
    (c_wire_refusal : PySem.W.codeIn K cd_wire_refusal "wire_refusal" = true)
    (k_wire_refusal : PySem.W.keepIn K (.ref f_wire_refusal) = true)
    (a_start : PySem.W.nsIn K mainGlobals "start" = some (some (.ref f_start)))
    (l_start : K.lookup f_start = some ⟨oc_start, od_start, .func (PySem.W.fnOf "start" "start" (defArgs s_start) (defBody s_start) (defScope s_start) .none kV_start dc_start pm_start an_start cd_start ct_start), sl_start⟩)
    (c_start : PySem.W.codeIn K cd_start "start" = true)
    (k_start : PySem.W.keepIn K (.ref f_start) = true)
    (a_child : PySem.W.nsIn K mainGlobals "child" = some (some (.ref f_child)))
    (l_child : K.lookup f_child = some ⟨oc_child, od_child, .func (PySem.W.fnOf "child" "child" (defArgs s_child) (defBody s_child) (defScope s_child) .none kV_child dc_child pm_child an_child cd_child ct_child), sl_child⟩)
    (c_child : PySem.W.codeIn K cd_child "child" = true)
    (k_child : PySem.W.keepIn K (.ref f_child) = true)
    (a_link : PySem.W.nsIn K mainGlobals "link" = some (some (.ref f_link)))
    (l_link : K.lookup f_link = some ⟨oc_link, od_link, .func (PySem.W.fnOf "link" "link" (defArgs s_link) (defBody s_link) (defScope s_link) .none kV_link dc_link pm_link an_link cd_link ct_link), sl_link⟩)
    (c_link : PySem.W.codeIn K cd_link "link" = true)
    (k_link : PySem.W.keepIn K (.ref f_link) = true)
    (a_cut : PySem.W.nsIn K mainGlobals "cut" = some (some (.ref f_cut)))
    (l_cut : K.lookup f_cut = some ⟨oc_cut, od_cut, .func (PySem.W.fnOf "cut" "cut" (defArgs s_cut) (defBody s_cut) (defScope s_cut) .none kV_cut dc_cut pm_cut an_cut cd_cut ct_cut), sl_cut⟩)
    (c_cut : PySem.W.codeIn K cd_cut "cut" = true)
    (k_cut : PySem.W.keepIn K (.ref f_cut) = true)
    (a_watch : PySem.W.nsIn K mainGlobals "watch" = some (some (.ref f_watch)))
    (l_watch : K.lookup f_watch = some ⟨oc_watch, od_watch, .func (PySem.W.fnOf "watch" "watch" (defArgs s_watch) (defBody s_watch) (defScope s_watch) .none kV_watch dc_watch pm_watch an_watch cd_watch ct_watch), sl_watch⟩)
    (c_watch : PySem.W.codeIn K cd_watch "watch" = true)
    (k_watch : PySem.W.keepIn K (.ref f_watch) = true)
    (a_unwatch : PySem.W.nsIn K mainGlobals "unwatch" = some (some (.ref f_unwatch)))
    (l_unwatch : K.lookup f_unwatch = some ⟨oc_unwatch, od_unwatch, .func (PySem.W.fnOf "unwatch" "unwatch" (defArgs s_unwatch) (defBody s_unwatch) (defScope s_unwatch) .none kV_unwatch dc_unwatch pm_unwatch an_unwatch cd_unwatch ct_unwatch), sl_unwatch⟩)
    (c_unwatch : PySem.W.codeIn K cd_unwatch "unwatch" = true)
    (k_unwatch : PySem.W.keepIn K (.ref f_unwatch) = true)
    (a_ends : PySem.W.nsIn K mainGlobals "ends" = some (some (.ref f_ends)))
    (l_ends : K.lookup f_ends = some ⟨oc_ends, od_ends, .func (PySem.W.fnOf "ends" "ends" (defArgs s_ends) (defBody s_ends) (defScope s_ends) .none kV_ends dc_ends pm_ends an_ends cd_ends ct_ends), sl_ends⟩)
    (c_ends : PySem.W.codeIn K cd_ends "ends" = true)
    (k_ends : PySem.W.keepIn K (.ref f_ends) = true)
    (a_stop : PySem.W.nsIn K mainGlobals "stop" = some (some (.ref f_stop)))
    (l_stop : K.lookup f_stop = some ⟨oc_stop, od_stop, .func (PySem.W.fnOf "stop" "stop" (defArgs s_stop) (defBody s_stop) (defScope s_stop) .none kV_stop dc_stop pm_stop an_stop cd_stop ct_stop), sl_stop⟩)
    (c_stop : PySem.W.codeIn K cd_stop "stop" = true)
    (k_stop : PySem.W.keepIn K (.ref f_stop) = true)
    (a_trap : PySem.W.nsIn K mainGlobals "trap" = some (some (.ref f_trap)))
    (l_trap : K.lookup f_trap = some ⟨oc_trap, od_trap, .func (PySem.W.fnOf "trap" "trap" (defArgs s_trap) (defBody s_trap) (defScope s_trap) .none kV_trap dc_trap pm_trap an_trap cd_trap ct_trap), sl_trap⟩)
    (c_trap : PySem.W.codeIn K cd_trap "trap" = true)
    (k_trap : PySem.W.keepIn K (.ref f_trap) = true)
    (a_say : PySem.W.nsIn K mainGlobals "say" = some (some (.ref f_say)))
    (l_say : K.lookup f_say = some ⟨oc_say, od_say, .func (PySem.W.fnOf "say" "say" (defArgs s_say) (defBody s_say) (defScope s_say) .none kV_say dc_say pm_say an_say cd_say ct_say), sl_say⟩)
    (c_say : PySem.W.codeIn K cd_say "say" = true)
    (k_say : PySem.W.keepIn K (.ref f_say) = true)
    (a_place_of_first : PySem.W.nsIn K mainGlobals "place_of_first" = some (some (.ref f_place_of_first)))
    (l_place_of_first : K.lookup f_place_of_first = some ⟨oc_place_of_first, od_place_of_first, .func (PySem.W.fnOf "place_of_first" "place_of_first" (defArgs s_place_of_first) (defBody s_place_of_first) (defScope s_place_of_first) .none kV_place_of_first dc_place_of_first pm_place_of_first an_place_of_first cd_place_of_first ct_place_of_first), sl_place_of_first⟩)
    (c_place_of_first : PySem.W.codeIn K cd_place_of_first "place_of_first" = true)
    (k_place_of_first : PySem.W.keepIn K (.ref f_place_of_first) = true)
    (a_deliver : PySem.W.nsIn K mainGlobals "deliver" = some (some (.ref f_deliver)))
    (l_deliver : K.lookup f_deliver = some ⟨oc_deliver, od_deliver, .func (PySem.W.fnOf "deliver" "deliver" (defArgs s_deliver) (defBody s_deliver) (defScope s_deliver) .none kV_deliver dc_deliver pm_deliver an_deliver cd_deliver ct_deliver), sl_deliver⟩)
    (c_deliver : PySem.W.codeIn K cd_deliver "deliver" = true)
    (k_deliver : PySem.W.keepIn K (.ref f_deliver) = true)
    (a_turns : PySem.W.nsIn K mainGlobals "turns" = some (some (.ref f_turns)))
    (l_turns : K.lookup f_turns = some ⟨oc_turns, od_turns, .func (PySem.W.fnOf "turns" "turns" (defArgs s_turns) (defBody s_turns) (defScope s_turns) .none kV_turns dc_turns pm_turns an_turns cd_turns ct_turns), sl_turns⟩)
    (c_turns : PySem.W.codeIn K cd_turns "turns" = true)
    (k_turns : PySem.W.keepIn K (.ref f_turns) = true)
    (a_box : PySem.W.nsIn K mainGlobals "box" = some (some (.ref f_box)))
    (l_box : K.lookup f_box = some ⟨oc_box, od_box, .func (PySem.W.fnOf "box" "box" (defArgs s_box) (defBody s_box) (defScope s_box) .none kV_box dc_box pm_box an_box cd_box ct_box), sl_box⟩)
    (c_box : PySem.W.codeIn K cd_box "box" = true)
    (k_box : PySem.W.keepIn K (.ref f_box) = true)
    (a_process : PySem.W.nsIn K mainGlobals "process" = some (some (.ref f_process)))
    (l_process : K.lookup f_process = some ⟨oc_process, od_process, .func (PySem.W.fnOf "process" "process" (defArgs s_process) (defBody s_process) (defScope s_process) .none kV_process dc_process pm_process an_process cd_process ct_process), sl_process⟩)
    (c_process : PySem.W.codeIn K cd_process "process" = true)
    (k_process : PySem.W.keepIn K (.ref f_process) = true)
    (a_air : PySem.W.nsIn K mainGlobals "air" = some (some (.ref f_air)))
    (l_air : K.lookup f_air = some ⟨oc_air, od_air, .func (PySem.W.fnOf "air" "air" (defArgs s_air) (defBody s_air) (defScope s_air) .none kV_air dc_air pm_air an_air cd_air ct_air), sl_air⟩)
    (c_air : PySem.W.codeIn K cd_air "air" = true)
    (k_air : PySem.W.keepIn K (.ref f_air) = true)
    (a_break_wire : PySem.W.nsIn K mainGlobals "break_wire" = some (some (.ref f_break_wire)))
    (l_break_wire : K.lookup f_break_wire = some ⟨oc_break_wire, od_break_wire, .func (PySem.W.fnOf "break_wire" "break_wire" (defArgs s_break_wire) (defBody s_break_wire) (defScope s_break_wire) .none kV_break_wire dc_break_wire pm_break_wire an_break_wire cd_break_wire ct_break_wire), sl_break_wire⟩)
    (c_break_wire : PySem.W.codeIn K cd_break_wire "break_wire" = true)
    (k_break_wire : PySem.W.keepIn K (.ref f_break_wire) = true)
    (a_notice : PySem.W.nsIn K mainGlobals "notice" = some (some (.ref f_notice)))
    (l_notice : K.lookup f_notice = some ⟨oc_notice, od_notice, .func (PySem.W.fnOf "notice" "notice" (defArgs s_notice) (defBody s_notice) (defScope s_notice) .none kV_notice dc_notice pm_notice an_notice cd_notice ct_notice), sl_notice⟩)
    (c_notice : PySem.W.codeIn K cd_notice "notice" = true)
    (k_notice : PySem.W.keepIn K (.ref f_notice) = true)
    (a_join : PySem.W.nsIn K mainGlobals "join" = some (some (.ref f_join)))
    (l_join : K.lookup f_join = some ⟨oc_join, od_join, .func (PySem.W.fnOf "join" "join" (defArgs s_join) (defBody s_join) (defScope s_join) .none kV_join dc_join pm_join an_join cd_join ct_join), sl_join⟩)
    (c_join : PySem.W.codeIn K cd_join "join" = true)
    (k_join : PySem.W.keepIn K (.ref f_join) = true)
    (a_wires : PySem.W.nsIn K mainGlobals "wires" = some (some (.ref f_wires)))
    (l_wires : K.lookup f_wires = some ⟨oc_wires, od_wires, .func (PySem.W.fnOf "wires" "wires" (defArgs s_wires) (defBody s_wires) (defScope s_wires) .none kV_wires dc_wires pm_wires an_wires cd_wires ct_wires), sl_wires⟩)
    (c_wires : PySem.W.codeIn K cd_wires "wires" = true)
    (k_wires : PySem.W.keepIn K (.ref f_wires) = true)
    (a_answer : PySem.W.nsIn K mainGlobals "answer" = some (some (.ref f_answer)))
    (l_answer : K.lookup f_answer = some ⟨oc_answer, od_answer, .func (PySem.W.fnOf "answer" "answer" (defArgs s_answer) (defBody s_answer) (defScope s_answer) .none kV_answer dc_answer pm_answer an_answer cd_answer ct_answer), sl_answer⟩)
    (c_answer : PySem.W.codeIn K cd_answer "answer" = true)
    (k_answer : PySem.W.keepIn K (.ref f_answer) = true)
    (a_answers : PySem.W.nsIn K mainGlobals "answers" = some (some (.ref f_answers)))
    (l_answers : K.lookup f_answers = some ⟨oc_answers, od_answers, .func (PySem.W.fnOf "answers" "answers" (defArgs s_answers) (defBody s_answers) (defScope s_answers) .none kV_answers dc_answers pm_answers an_answers cd_answers ct_answers), sl_answers⟩)
    (c_answers : PySem.W.codeIn K cd_answers "answers" = true)
    (k_answers : PySem.W.keepIn K (.ref f_answers) = true)
    (a_Process_init : PySem.W.findIn K (.ref CP) "__init__" = some (some (.ref f_Process_init)))
    (i_Process_init : PySem.W.isFn K (.ref f_Process_init) = true)
    (l_Process_init : K.lookup f_Process_init = some ⟨oc_Process_init, od_Process_init, .func (PySem.W.fnOf "__init__" "Process.__init__" (defArgs s_Process_init) (defBody s_Process_init) (defScope s_Process_init) .none kV_Process_init dc_Process_init pm_Process_init an_Process_init cd_Process_init ct_Process_init), sl_Process_init⟩)
    (c_Process_init : PySem.W.codeIn K cd_Process_init "Process.__init__" = true)
    (k_Process_init : PySem.W.keepIn K (.ref f_Process_init) = true)
    (a_Process_link_holds : PySem.W.findIn K (.ref CP) "link_holds" = some (some (.ref f_Process_link_holds)))
    (i_Process_link_holds : PySem.W.isFn K (.ref f_Process_link_holds) = true)
    (l_Process_link_holds : K.lookup f_Process_link_holds = some ⟨oc_Process_link_holds, od_Process_link_holds, .func (PySem.W.fnOf "link_holds" "Process.link_holds" (defArgs s_Process_link_holds) (defBody s_Process_link_holds) (defScope s_Process_link_holds) .none kV_Process_link_holds dc_Process_link_holds pm_Process_link_holds an_Process_link_holds cd_Process_link_holds ct_Process_link_holds), sl_Process_link_holds⟩)
    (c_Process_link_holds : PySem.W.codeIn K cd_Process_link_holds "Process.link_holds" = true)
    (k_Process_link_holds : PySem.W.keepIn K (.ref f_Process_link_holds) = true)
    (a_Process_end_with : PySem.W.findIn K (.ref CP) "end_with" = some (some (.ref f_Process_end_with)))
    (i_Process_end_with : PySem.W.isFn K (.ref f_Process_end_with) = true)
    (l_Process_end_with : K.lookup f_Process_end_with = some ⟨oc_Process_end_with, od_Process_end_with, .func (PySem.W.fnOf "end_with" "Process.end_with" (defArgs s_Process_end_with) (defBody s_Process_end_with) (defScope s_Process_end_with) .none kV_Process_end_with dc_Process_end_with pm_Process_end_with an_Process_end_with cd_Process_end_with ct_Process_end_with), sl_Process_end_with⟩)
    (c_Process_end_with : PySem.W.codeIn K cd_Process_end_with "Process.end_with" = true)
    (k_Process_end_with : PySem.W.keepIn K (.ref f_Process_end_with) = true)
    (a_World_init : PySem.W.findIn K (.ref CW) "__init__" = some (some (.ref f_World_init)))
    (i_World_init : PySem.W.isFn K (.ref f_World_init) = true)
    (l_World_init : K.lookup f_World_init = some ⟨oc_World_init, od_World_init, .func (PySem.W.fnOf "__init__" "World.__init__" (defArgs s_World_init) (defBody s_World_init) (defScope s_World_init) .none kV_World_init dc_World_init pm_World_init an_World_init cd_World_init ct_World_init), sl_World_init⟩)
    (c_World_init : PySem.W.codeIn K cd_World_init "World.__init__" = true)
    (k_World_init : PySem.W.keepIn K (.ref f_World_init) = true)
    (a_World_has_process : PySem.W.findIn K (.ref CW) "has_process" = some (some (.ref f_World_has_process)))
    (i_World_has_process : PySem.W.isFn K (.ref f_World_has_process) = true)
    (l_World_has_process : K.lookup f_World_has_process = some ⟨oc_World_has_process, od_World_has_process, .func (PySem.W.fnOf "has_process" "World.has_process" (defArgs s_World_has_process) (defBody s_World_has_process) (defScope s_World_has_process) .none kV_World_has_process dc_World_has_process pm_World_has_process an_World_has_process cd_World_has_process ct_World_has_process), sl_World_has_process⟩)
    (c_World_has_process : PySem.W.codeIn K cd_World_has_process "World.has_process" = true)
    (k_World_has_process : PySem.W.keepIn K (.ref f_World_has_process) = true)
    (a_World_process : PySem.W.findIn K (.ref CW) "process" = some (some (.ref f_World_process)))
    (i_World_process : PySem.W.isFn K (.ref f_World_process) = true)
    (l_World_process : K.lookup f_World_process = some ⟨oc_World_process, od_World_process, .func (PySem.W.fnOf "process" "World.process" (defArgs s_World_process) (defBody s_World_process) (defScope s_World_process) .none kV_World_process dc_World_process pm_World_process an_World_process cd_World_process ct_World_process), sl_World_process⟩)
    (c_World_process : PySem.W.codeIn K cd_World_process "World.process" = true)
    (k_World_process : PySem.W.keepIn K (.ref f_World_process) = true)
    (a_World_new_process : PySem.W.findIn K (.ref CW) "new_process" = some (some (.ref f_World_new_process)))
    (i_World_new_process : PySem.W.isFn K (.ref f_World_new_process) = true)
    (l_World_new_process : K.lookup f_World_new_process = some ⟨oc_World_new_process, od_World_new_process, .func (PySem.W.fnOf "new_process" "World.new_process" (defArgs s_World_new_process) (defBody s_World_new_process) (defScope s_World_new_process) .none kV_World_new_process dc_World_new_process pm_World_new_process an_World_new_process cd_World_new_process ct_World_new_process), sl_World_new_process⟩)
    (c_World_new_process : PySem.W.codeIn K cd_World_new_process "World.new_process" = true)
    (k_World_new_process : PySem.W.keepIn K (.ref f_World_new_process) = true)
    (a_World_new_number : PySem.W.findIn K (.ref CW) "new_number" = some (some (.ref f_World_new_number)))
    (i_World_new_number : PySem.W.isFn K (.ref f_World_new_number) = true)
    (l_World_new_number : K.lookup f_World_new_number = some ⟨oc_World_new_number, od_World_new_number, .func (PySem.W.fnOf "new_number" "World.new_number" (defArgs s_World_new_number) (defBody s_World_new_number) (defScope s_World_new_number) .none kV_World_new_number dc_World_new_number pm_World_new_number an_World_new_number cd_World_new_number ct_World_new_number), sl_World_new_number⟩)
    (c_World_new_number : PySem.W.codeIn K cd_World_new_number "World.new_number" = true)
    (k_World_new_number : PySem.W.keepIn K (.ref f_World_new_number) = true)
    (a_World_new_connection : PySem.W.findIn K (.ref CW) "new_connection" = some (some (.ref f_World_new_connection)))
    (i_World_new_connection : PySem.W.isFn K (.ref f_World_new_connection) = true)
    (l_World_new_connection : K.lookup f_World_new_connection = some ⟨oc_World_new_connection, od_World_new_connection, .func (PySem.W.fnOf "new_connection" "World.new_connection" (defArgs s_World_new_connection) (defBody s_World_new_connection) (defScope s_World_new_connection) .none kV_World_new_connection dc_World_new_connection pm_World_new_connection an_World_new_connection cd_World_new_connection ct_World_new_connection), sl_World_new_connection⟩)
    (c_World_new_connection : PySem.W.codeIn K cd_World_new_connection "World.new_connection" = true)
    (k_World_new_connection : PySem.W.keepIn K (.ref f_World_new_connection) = true)
    (a_World_send : PySem.W.findIn K (.ref CW) "send" = some (some (.ref f_World_send)))
    (i_World_send : PySem.W.isFn K (.ref f_World_send) = true)
    (l_World_send : K.lookup f_World_send = some ⟨oc_World_send, od_World_send, .func (PySem.W.fnOf "send" "World.send" (defArgs s_World_send) (defBody s_World_send) (defScope s_World_send) .none kV_World_send dc_World_send pm_World_send an_World_send cd_World_send ct_World_send), sl_World_send⟩)
    (c_World_send : PySem.W.codeIn K cd_World_send "World.send" = true)
    (k_World_send : PySem.W.keepIn K (.ref f_World_send) = true)
    (a_World_send_back : PySem.W.findIn K (.ref CW) "send_back" = some (some (.ref f_World_send_back)))
    (i_World_send_back : PySem.W.isFn K (.ref f_World_send_back) = true)
    (l_World_send_back : K.lookup f_World_send_back = some ⟨oc_World_send_back, od_World_send_back, .func (PySem.W.fnOf "send_back" "World.send_back" (defArgs s_World_send_back) (defBody s_World_send_back) (defScope s_World_send_back) .none kV_World_send_back dc_World_send_back pm_World_send_back an_World_send_back cd_World_send_back ct_World_send_back), sl_World_send_back⟩)
    (c_World_send_back : PySem.W.codeIn K cd_World_send_back "World.send_back" = true)
    (k_World_send_back : PySem.W.keepIn K (.ref f_World_send_back) = true)
    (a_World_end : PySem.W.findIn K (.ref CW) "end" = some (some (.ref f_World_end)))
    (i_World_end : PySem.W.isFn K (.ref f_World_end) = true)
    (l_World_end : K.lookup f_World_end = some ⟨oc_World_end, od_World_end, .func (PySem.W.fnOf "end" "World.end" (defArgs s_World_end) (defBody s_World_end) (defScope s_World_end) .none kV_World_end dc_World_end pm_World_end an_World_end cd_World_end ct_World_end), sl_World_end⟩)
    (c_World_end : PySem.W.codeIn K cd_World_end "World.end" = true)
    (k_World_end : PySem.W.keepIn K (.ref f_World_end) = true)
    (a_World_end_comes : PySem.W.findIn K (.ref CW) "end_comes" = some (some (.ref f_World_end_comes)))
    (i_World_end_comes : PySem.W.isFn K (.ref f_World_end_comes) = true)
    (l_World_end_comes : K.lookup f_World_end_comes = some ⟨oc_World_end_comes, od_World_end_comes, .func (PySem.W.fnOf "end_comes" "World.end_comes" (defArgs s_World_end_comes) (defBody s_World_end_comes) (defScope s_World_end_comes) .none kV_World_end_comes dc_World_end_comes pm_World_end_comes an_World_end_comes cd_World_end_comes ct_World_end_comes), sl_World_end_comes⟩)
    (c_World_end_comes : PySem.W.codeIn K cd_World_end_comes "World.end_comes" = true)
    (k_World_end_comes : PySem.W.keepIn K (.ref f_World_end_comes) = true)
    (pgCP : PySem.W.plainGet K CP Str.empty = true)
    (hdCP : PySem.W.hasDictIn K CP = true)
    (poCP : PySem.W.plainOver K CP = true)
    (saCP : PySem.W.findIn K (.ref CP) "__setattr__" = some (some (.builtin "object.__setattr__")))
    (mkCP : PySem.W.makesIn K CP = true)
    (kcCP : PySem.W.keepIn K (.ref CP) = true)
    (n_node : PySem.W.findIn K (.ref CP) "node" = some none)
    (n_lives : PySem.W.findIn K (.ref CP) "lives" = some none)
    (n_why : PySem.W.findIn K (.ref CP) "why" = some none)
    (n_traps : PySem.W.findIn K (.ref CP) "traps" = some none)
    (n_links : PySem.W.findIn K (.ref CP) "links" = some none)
    (n_watches : PySem.W.findIn K (.ref CP) "watches" = some none)
    (n_watched_by : PySem.W.findIn K (.ref CP) "watched_by" = some none)
    (n_box : PySem.W.findIn K (.ref CP) "box" = some none)
    (pgCW : PySem.W.plainGet K CW Str.empty = true)
    (hdCW : PySem.W.hasDictIn K CW = true)
    (poCW : PySem.W.plainOver K CW = true)
    (saCW : PySem.W.findIn K (.ref CW) "__setattr__" = some (some (.builtin "object.__setattr__")))
    (mkCW : PySem.W.makesIn K CW = true)
    (kcCW : PySem.W.keepIn K (.ref CW) = true)
    (n_processes : PySem.W.findIn K (.ref CW) "processes" = some none)
    (n_air : PySem.W.findIn K (.ref CW) "air" = some none)
    (n_last_number : PySem.W.findIn K (.ref CW) "last_number" = some none)
    (n_connections : PySem.W.findIn K (.ref CW) "connections" = some none)
    (n_last_connection : PySem.W.findIn K (.ref CW) "last_connection" = some none)
    (n_broken : PySem.W.findIn K (.ref CW) "broken" = some none)
    (z_HOLDS : PySem.W.nsIn K mainGlobals "HOLDS" = some (some (.int (0) tk_HOLDS)))
    (z_WORD_CAME : PySem.W.nsIn K mainGlobals "WORD_CAME" = some (some (.int (0) tk_WORD_CAME)))
    (z_LINKED_ONE_ENDED : PySem.W.nsIn K mainGlobals "LINKED_ONE_ENDED" = some (some (.int (1) tk_LINKED_ONE_ENDED)))
    (z_WATCHED_ONE_ENDED : PySem.W.nsIn K mainGlobals "WATCHED_ONE_ENDED" = some (some (.int (2) tk_WATCHED_ONE_ENDED)))
    (z_END_WAS_SENT : PySem.W.nsIn K mainGlobals "END_WAS_SENT" = some (some (.int (3) tk_END_WAS_SENT)))
    (z_WORD : PySem.W.nsIn K mainGlobals "WORD" = some (some (.int (0) tk_WORD)))
    (z_LINK : PySem.W.nsIn K mainGlobals "LINK" = some (some (.int (1) tk_LINK)))
    (z_CUT : PySem.W.nsIn K mainGlobals "CUT" = some (some (.int (2) tk_CUT)))
    (z_HEARD : PySem.W.nsIn K mainGlobals "HEARD" = some (some (.int (3) tk_HEARD)))
    (z_ENDED : PySem.W.nsIn K mainGlobals "ENDED" = some (some (.int (4) tk_ENDED)))
    (z_STOP : PySem.W.nsIn K mainGlobals "STOP" = some (some (.int (5) tk_STOP)))
    (z_WATCH : PySem.W.nsIn K mainGlobals "WATCH" = some (some (.int (6) tk_WATCH)))
    (z_UNWATCH : PySem.W.nsIn K mainGlobals "UNWATCH" = some (some (.int (7) tk_UNWATCH)))
    (z_GONE : PySem.W.nsIn K mainGlobals "GONE" = some (some (.int (8) tk_GONE)))
    (z_AS_IT_SHOULD : PySem.W.nsIn K mainGlobals "AS_IT_SHOULD" = some (some (.int (0) tk_AS_IT_SHOULD)))
    (z_TO_BE_KILLED : PySem.W.nsIn K mainGlobals "TO_BE_KILLED" = some (some (.int (1) tk_TO_BE_KILLED)))
    (z_KILLED : PySem.W.nsIn K mainGlobals "KILLED" = some (some (.int (2) tk_KILLED)))
    (z_NOBODY_THERE : PySem.W.nsIn K mainGlobals "NOBODY_THERE" = some (some (.int (3) tk_NOBODY_THERE)))
    (z_CONNECTION_LOST : PySem.W.nsIn K mainGlobals "CONNECTION_LOST" = some (some (.int (4) tk_CONNECTION_LOST)))
    (z_NO_CONNECTION : PySem.W.nsIn K mainGlobals "NO_CONNECTION" = some (some (.int (0) tk_NO_CONNECTION)))
    (z_WITHIN_A_NODE : PySem.W.nsIn K mainGlobals "WITHIN_A_NODE" = some (some (.int (0) tk_WITHIN_A_NODE)))
    (z_FITS : PySem.W.nsIn K mainGlobals "FITS" = some (some (.int (0) tk_FITS)))
    (z_NO_SUCH : PySem.W.nsIn K mainGlobals "NO_SUCH" = some (some (.int (-1) tk_NO_SUCH)))
    (z_NOT_SO_NOW : PySem.W.nsIn K mainGlobals "NOT_SO_NOW" = some (some (.int (-4) tk_NOT_SO_NOW)))
    (z_NONE_ON_ITS_WAY : PySem.W.nsIn K mainGlobals "NONE_ON_ITS_WAY" = some (some (.int (-5) tk_NONE_ON_ITS_WAY)))
    (z_TOO_MANY : PySem.W.nsIn K mainGlobals "TOO_MANY" = some (some (.int (-6) tk_TOO_MANY)))
    (z_HAS_ENDED : PySem.W.nsIn K mainGlobals "HAS_ENDED" = some (some (.int (-8) tk_HAS_ENDED)))
    (z_NODES : PySem.W.nsIn K mainGlobals "NODES" = some (some (.int (3) tk_NODES)))
    (z_MOST_PROCESSES : PySem.W.nsIn K mainGlobals "MOST_PROCESSES" = some (some (.int (12) tk_MOST_PROCESSES)))
    (z_MOST_SIGNALS : PySem.W.nsIn K mainGlobals "MOST_SIGNALS" = some (some (.int (200) tk_MOST_SIGNALS)))
    (z_MOST_TURNS : PySem.W.nsIn K mainGlobals "MOST_TURNS" = some (some (.int (1000) tk_MOST_TURNS)))
    (z_GREATEST_WHY : PySem.W.nsIn K mainGlobals "GREATEST_WHY" = some (some (.int (99) tk_GREATEST_WHY)))
    (z_LINKED : PySem.W.nsIn K mainGlobals "LINKED" = some (some (.int (1) tk_LINKED)))
    (z_WATCHED : PySem.W.nsIn K mainGlobals "WATCHED" = some (some (.int (2) tk_WATCHED)))
    (b_len : PySem.W.nsIn K mainGlobals "len" = some none)
    (b_min : PySem.W.nsIn K mainGlobals "min" = some none)
    (b_max : PySem.W.nsIn K mainGlobals "max" = some none)
    (b_sorted : PySem.W.nsIn K mainGlobals "sorted" = some none)
    (b_list : PySem.W.nsIn K mainGlobals "list" = some none)
    (b_range : PySem.W.nsIn K mainGlobals "range" = some none)
    (b_enumerate : PySem.W.nsIn K mainGlobals "enumerate" = some none)
    (aC : PySem.W.nsIn K mainGlobals "CALLS" = some (some (.ref aCALLS)))
    (lC : K.lookup aCALLS = some ⟨.type "tuple", odA, .seq #[.ref f_start, .ref f_child, .ref f_link, .ref f_cut, .ref f_watch, .ref f_unwatch, .ref f_ends, .ref f_stop, .ref f_trap, .ref f_say, .ref f_deliver, .ref f_turns, .ref f_box, .ref f_process, .ref f_air, .ref f_break_wire, .ref f_notice, .ref f_join, .ref f_wires] nA, slA⟩)
    (aN : PySem.W.nsIn K mainGlobals "COUNTS" = some (some (.ref aCOUNTS)))
    (lN : K.lookup aCOUNTS = some ⟨.type "tuple", odB, .seq #[.int 1 tc0, .int 2 tc1, .int 2 tc2, .int 2 tc3, .int 2 tc4, .int 2 tc5, .int 2 tc6, .int 3 tc7, .int 2 tc8, .int 3 tc9, .int 2 tc10, .int 1 tc11, .int 1 tc12, .int 1 tc13, .int 0 tc14, .int 2 tc15, .int 2 tc16, .int 2 tc17, .int 0 tc18] nB, slB⟩)
    (aL : PySem.W.nsIn K mainGlobals "AT_ONE_WHO_LIVES" = some (some (.ref aLIVE)))
    (lL : K.lookup aLIVE = some ⟨.type "tuple", odC, .seq #[.ref f_word_arrives, .ref f_link_arrives, .ref f_cut_arrives, .ref f_heard_arrives, .ref f_ended_arrives, .ref f_stop_arrives, .ref f_watch_arrives, .ref f_unwatch_arrives, .ref f_gone_arrives] nC, slC⟩)
    : ∃ fd : FuncData, (∀ (s : Shared) (us : List Value), us.length = (["calls"] : List Str).length → BindsTo s fd ⟨us, []⟩ ((["calls"] : List Str).zip us)) ∧ ∀ base : Heap, K.In base → base.Ns mainGlobals mg → FnOk P w K mg base CX0 11 fa fd ["calls"] (spAns K) := by
  have e : fa = f_answers := Value.ref.inj (Option.some.inj (hfa.symm.trans (PySem.W.mg_of X G a_answers)))
  rw [e]
  let c : Cs := ⟨CP, CW, aCALLS, aCOUNTS, aLIVE, [f_start, f_child, f_link, f_cut, f_watch, f_unwatch, f_ends, f_stop, f_trap, f_say, f_deliver, f_turns, f_box, f_process, f_air, f_break_wire, f_notice, f_join, f_wires], [f_word_arrives, f_link_arrives, f_cut_arrives, f_heard_arrives, f_ended_arrives, f_stop_arrives, f_watch_arrives, f_unwatch_arrives, f_gone_arrives]⟩
  have T : Txt K mg c :=
    { clP := ⟨pgCP, hdCP, poCP, saCP⟩, clW := ⟨pgCW, hdCW, poCW, saCW⟩,
      n_node := n_node, n_lives := n_lives, n_why := n_why, n_traps := n_traps, n_links := n_links, n_watches := n_watches, n_watched_by := n_watched_by, n_box := n_box, n_processes := n_processes, n_air := n_air, n_last_number := n_last_number, n_connections := n_connections, n_last_connection := n_last_connection, n_broken := n_broken,
      k_HOLDS := ⟨_, PySem.W.mg_of X G z_HOLDS⟩, k_WORD_CAME := ⟨_, PySem.W.mg_of X G z_WORD_CAME⟩, k_LINKED_ONE_ENDED := ⟨_, PySem.W.mg_of X G z_LINKED_ONE_ENDED⟩, k_WATCHED_ONE_ENDED := ⟨_, PySem.W.mg_of X G z_WATCHED_ONE_ENDED⟩, k_END_WAS_SENT := ⟨_, PySem.W.mg_of X G z_END_WAS_SENT⟩, k_WORD := ⟨_, PySem.W.mg_of X G z_WORD⟩, k_LINK := ⟨_, PySem.W.mg_of X G z_LINK⟩, k_CUT := ⟨_, PySem.W.mg_of X G z_CUT⟩, k_HEARD := ⟨_, PySem.W.mg_of X G z_HEARD⟩, k_ENDED := ⟨_, PySem.W.mg_of X G z_ENDED⟩, k_STOP := ⟨_, PySem.W.mg_of X G z_STOP⟩, k_WATCH := ⟨_, PySem.W.mg_of X G z_WATCH⟩, k_UNWATCH := ⟨_, PySem.W.mg_of X G z_UNWATCH⟩, k_GONE := ⟨_, PySem.W.mg_of X G z_GONE⟩, k_AS_IT_SHOULD := ⟨_, PySem.W.mg_of X G z_AS_IT_SHOULD⟩, k_TO_BE_KILLED := ⟨_, PySem.W.mg_of X G z_TO_BE_KILLED⟩, k_KILLED := ⟨_, PySem.W.mg_of X G z_KILLED⟩, k_NOBODY_THERE := ⟨_, PySem.W.mg_of X G z_NOBODY_THERE⟩, k_CONNECTION_LOST := ⟨_, PySem.W.mg_of X G z_CONNECTION_LOST⟩, k_NO_CONNECTION := ⟨_, PySem.W.mg_of X G z_NO_CONNECTION⟩, k_WITHIN_A_NODE := ⟨_, PySem.W.mg_of X G z_WITHIN_A_NODE⟩, k_FITS := ⟨_, PySem.W.mg_of X G z_FITS⟩, k_NO_SUCH := ⟨_, PySem.W.mg_of X G z_NO_SUCH⟩, k_NOT_SO_NOW := ⟨_, PySem.W.mg_of X G z_NOT_SO_NOW⟩, k_NONE_ON_ITS_WAY := ⟨_, PySem.W.mg_of X G z_NONE_ON_ITS_WAY⟩, k_TOO_MANY := ⟨_, PySem.W.mg_of X G z_TOO_MANY⟩, k_HAS_ENDED := ⟨_, PySem.W.mg_of X G z_HAS_ENDED⟩, k_NODES := ⟨_, PySem.W.mg_of X G z_NODES⟩, k_MOST_PROCESSES := ⟨_, PySem.W.mg_of X G z_MOST_PROCESSES⟩, k_MOST_SIGNALS := ⟨_, PySem.W.mg_of X G z_MOST_SIGNALS⟩, k_MOST_TURNS := ⟨_, PySem.W.mg_of X G z_MOST_TURNS⟩, k_GREATEST_WHY := ⟨_, PySem.W.mg_of X G z_GREATEST_WHY⟩, k_LINKED := ⟨_, PySem.W.mg_of X G z_LINKED⟩, k_WATCHED := ⟨_, PySem.W.mg_of X G z_WATCHED⟩,
      m_len := PySem.W.mg_none_of X G b_len, m_min := PySem.W.mg_none_of X G b_min, m_max := PySem.W.mg_none_of X G b_max, m_sorted := PySem.W.mg_none_of X G b_sorted, m_list := PySem.W.mg_none_of X G b_list, m_range := PySem.W.mg_none_of X G b_range, m_enumerate := PySem.W.mg_none_of X G b_enumerate,
      m_CALLS := PySem.W.mg_of X G aC, m_COUNTS := PySem.W.mg_of X G aN, m_AT_ONE_WHO_LIVES := PySem.W.mg_of X G aL,
      t_COUNTS := fun H => .inr ⟨_, _, _, lN, rfl, rfl, (by show 19 ≤ sizeLine; decide), .cons ⟨_, rfl⟩ (.cons ⟨_, rfl⟩ (.cons ⟨_, rfl⟩ (.cons ⟨_, rfl⟩ (.cons ⟨_, rfl⟩ (.cons ⟨_, rfl⟩ (.cons ⟨_, rfl⟩ (.cons ⟨_, rfl⟩ (.cons ⟨_, rfl⟩ (.cons ⟨_, rfl⟩ (.cons ⟨_, rfl⟩ (.cons ⟨_, rfl⟩ (.cons ⟨_, rfl⟩ (.cons ⟨_, rfl⟩ (.cons ⟨_, rfl⟩ (.cons ⟨_, rfl⟩ (.cons ⟨_, rfl⟩ (.cons ⟨_, rfl⟩ (.cons ⟨_, rfl⟩ (.nil)))))))))))))))))))⟩,
      t_CALLS := fun H => .inr ⟨_, _, _, lC, rfl, rfl, (by show 19 ≤ sizeLine; decide), refs_vals [f_start, f_child, f_link, f_cut, f_watch, f_unwatch, f_ends, f_stop, f_trap, f_say, f_deliver, f_turns, f_box, f_process, f_air, f_break_wire, f_notice, f_join, f_wires]⟩,
      t_LIVE := fun H => .inr ⟨_, _, _, lL, rfl, rfl, (by show 9 ≤ sizeLine; decide), refs_vals [f_word_arrives, f_link_arrives, f_cut_arrives, f_heard_arrives, f_ended_arrives, f_stop_arrives, f_watch_arrives, f_unwatch_arrives, f_gone_arrives]⟩,
      l_fs := rfl, l_gs := rfl,
      f_start := ⟨_, rfl, PySem.W.mg_of X G a_start⟩, f_child := ⟨_, rfl, PySem.W.mg_of X G a_child⟩, f_link := ⟨_, rfl, PySem.W.mg_of X G a_link⟩, f_cut := ⟨_, rfl, PySem.W.mg_of X G a_cut⟩, f_watch := ⟨_, rfl, PySem.W.mg_of X G a_watch⟩, f_unwatch := ⟨_, rfl, PySem.W.mg_of X G a_unwatch⟩, f_ends := ⟨_, rfl, PySem.W.mg_of X G a_ends⟩, f_stop := ⟨_, rfl, PySem.W.mg_of X G a_stop⟩, f_trap := ⟨_, rfl, PySem.W.mg_of X G a_trap⟩, f_say := ⟨_, rfl, PySem.W.mg_of X G a_say⟩, f_deliver := ⟨_, rfl, PySem.W.mg_of X G a_deliver⟩, f_turns := ⟨_, rfl, PySem.W.mg_of X G a_turns⟩, f_box := ⟨_, rfl, PySem.W.mg_of X G a_box⟩, f_process := ⟨_, rfl, PySem.W.mg_of X G a_process⟩, f_air := ⟨_, rfl, PySem.W.mg_of X G a_air⟩, f_break_wire := ⟨_, rfl, PySem.W.mg_of X G a_break_wire⟩, f_notice := ⟨_, rfl, PySem.W.mg_of X G a_notice⟩, f_join := ⟨_, rfl, PySem.W.mg_of X G a_join⟩, f_wires := ⟨_, rfl, PySem.W.mg_of X G a_wires⟩, f_word_arrives := ⟨_, rfl, PySem.W.mg_of X G a_word_arrives⟩, f_link_arrives := ⟨_, rfl, PySem.W.mg_of X G a_link_arrives⟩, f_cut_arrives := ⟨_, rfl, PySem.W.mg_of X G a_cut_arrives⟩, f_heard_arrives := ⟨_, rfl, PySem.W.mg_of X G a_heard_arrives⟩, f_ended_arrives := ⟨_, rfl, PySem.W.mg_of X G a_ended_arrives⟩, f_stop_arrives := ⟨_, rfl, PySem.W.mg_of X G a_stop_arrives⟩, f_watch_arrives := ⟨_, rfl, PySem.W.mg_of X G a_watch_arrives⟩, f_unwatch_arrives := ⟨_, rfl, PySem.W.mg_of X G a_unwatch_arrives⟩, f_gone_arrives := ⟨_, rfl, PySem.W.mg_of X G a_gone_arrives⟩ }
  have D_comes_back : Dfn K mg "comes_back" s_comes_back := ⟨f_comes_back, _, fun_mk (st := s_comes_back) l_comes_back c_comes_back k_comes_back, PySem.W.mg_of X G a_comes_back⟩
  have D_wire_between : Dfn K mg "wire_between" s_wire_between := ⟨f_wire_between, _, fun_mk (st := s_wire_between) l_wire_between c_wire_between k_wire_between, PySem.W.mg_of X G a_wire_between⟩
  have D_word_arrives : Dfn K mg "word_arrives" s_word_arrives := ⟨f_word_arrives, _, fun_mk (st := s_word_arrives) l_word_arrives c_word_arrives k_word_arrives, PySem.W.mg_of X G a_word_arrives⟩
  have D_link_arrives : Dfn K mg "link_arrives" s_link_arrives := ⟨f_link_arrives, _, fun_mk (st := s_link_arrives) l_link_arrives c_link_arrives k_link_arrives, PySem.W.mg_of X G a_link_arrives⟩
  have D_cut_arrives : Dfn K mg "cut_arrives" s_cut_arrives := ⟨f_cut_arrives, _, fun_mk (st := s_cut_arrives) l_cut_arrives c_cut_arrives k_cut_arrives, PySem.W.mg_of X G a_cut_arrives⟩
  have D_heard_arrives : Dfn K mg "heard_arrives" s_heard_arrives := ⟨f_heard_arrives, _, fun_mk (st := s_heard_arrives) l_heard_arrives c_heard_arrives k_heard_arrives, PySem.W.mg_of X G a_heard_arrives⟩
  have D_ended_arrives : Dfn K mg "ended_arrives" s_ended_arrives := ⟨f_ended_arrives, _, fun_mk (st := s_ended_arrives) l_ended_arrives c_ended_arrives k_ended_arrives, PySem.W.mg_of X G a_ended_arrives⟩
  have D_stop_arrives : Dfn K mg "stop_arrives" s_stop_arrives := ⟨f_stop_arrives, _, fun_mk (st := s_stop_arrives) l_stop_arrives c_stop_arrives k_stop_arrives, PySem.W.mg_of X G a_stop_arrives⟩
  have D_watch_arrives : Dfn K mg "watch_arrives" s_watch_arrives := ⟨f_watch_arrives, _, fun_mk (st := s_watch_arrives) l_watch_arrives c_watch_arrives k_watch_arrives, PySem.W.mg_of X G a_watch_arrives⟩
  have D_unwatch_arrives : Dfn K mg "unwatch_arrives" s_unwatch_arrives := ⟨f_unwatch_arrives, _, fun_mk (st := s_unwatch_arrives) l_unwatch_arrives c_unwatch_arrives k_unwatch_arrives, PySem.W.mg_of X G a_unwatch_arrives⟩
  have D_gone_arrives : Dfn K mg "gone_arrives" s_gone_arrives := ⟨f_gone_arrives, _, fun_mk (st := s_gone_arrives) l_gone_arrives c_gone_arrives k_gone_arrives, PySem.W.mg_of X G a_gone_arrives⟩
  have D_arrives_at_ended : Dfn K mg "arrives_at_ended" s_arrives_at_ended := ⟨f_arrives_at_ended, _, fun_mk (st := s_arrives_at_ended) l_arrives_at_ended c_arrives_at_ended k_arrives_at_ended, PySem.W.mg_of X G a_arrives_at_ended⟩
  have D_counts : Dfn K mg "counts" s_counts := ⟨f_counts, _, fun_mk (st := s_counts) l_counts c_counts k_counts, PySem.W.mg_of X G a_counts⟩
  have D_arrive : Dfn K mg "arrive" s_arrive := ⟨f_arrive, _, fun_mk (st := s_arrive) l_arrive c_arrive k_arrive, PySem.W.mg_of X G a_arrive⟩
  have D_numbers_of_those_on : Dfn K mg "numbers_of_those_on" s_numbers_of_those_on := ⟨f_numbers_of_those_on, _, fun_mk (st := s_numbers_of_those_on) l_numbers_of_those_on c_numbers_of_those_on k_numbers_of_those_on, PySem.W.mg_of X G a_numbers_of_those_on⟩
  have D_lose_watched_by : Dfn K mg "lose_watched_by" s_lose_watched_by := ⟨f_lose_watched_by, _, fun_mk (st := s_lose_watched_by) l_lose_watched_by c_lose_watched_by k_lose_watched_by, PySem.W.mg_of X G a_lose_watched_by⟩
  have D_lose_watches : Dfn K mg "lose_watches" s_lose_watches := ⟨f_lose_watches, _, fun_mk (st := s_lose_watches) l_lose_watches c_lose_watches k_lose_watches, PySem.W.mg_of X G a_lose_watches⟩
  have D_lose_links : Dfn K mg "lose_links" s_lose_links := ⟨f_lose_links, _, fun_mk (st := s_lose_links) l_lose_links c_lose_links k_lose_links, PySem.W.mg_of X G a_lose_links⟩
  have D_notice_loss : Dfn K mg "notice_loss" s_notice_loss := ⟨f_notice_loss, _, fun_mk (st := s_notice_loss) l_notice_loss c_notice_loss k_notice_loss, PySem.W.mg_of X G a_notice_loss⟩
  have D_join_nodes : Dfn K mg "join_nodes" s_join_nodes := ⟨f_join_nodes, _, fun_mk (st := s_join_nodes) l_join_nodes c_join_nodes k_join_nodes, PySem.W.mg_of X G a_join_nodes⟩
  have D_one_if : Dfn K mg "one_if" s_one_if := ⟨f_one_if, _, fun_mk (st := s_one_if) l_one_if c_one_if k_one_if, PySem.W.mg_of X G a_one_if⟩
  have D_told_of_joined : Dfn K mg "told_of_joined" s_told_of_joined := ⟨f_told_of_joined, _, fun_mk (st := s_told_of_joined) l_told_of_joined c_told_of_joined k_told_of_joined, PySem.W.mg_of X G a_told_of_joined⟩
  have D_told_of_links : Dfn K mg "told_of_links" s_told_of_links := ⟨f_told_of_links, _, fun_mk (st := s_told_of_links) l_told_of_links c_told_of_links k_told_of_links, PySem.W.mg_of X G a_told_of_links⟩
  have D_told_of_process : Dfn K mg "told_of_process" s_told_of_process := ⟨f_told_of_process, _, fun_mk (st := s_told_of_process) l_told_of_process c_told_of_process k_told_of_process, PySem.W.mg_of X G a_told_of_process⟩
  have D_told_of_box : Dfn K mg "told_of_box" s_told_of_box := ⟨f_told_of_box, _, fun_mk (st := s_told_of_box) l_told_of_box c_told_of_box k_told_of_box, PySem.W.mg_of X G a_told_of_box⟩
  have D_told_of_air : Dfn K mg "told_of_air" s_told_of_air := ⟨f_told_of_air, _, fun_mk (st := s_told_of_air) l_told_of_air c_told_of_air k_told_of_air, PySem.W.mg_of X G a_told_of_air⟩
  have D_told_of_wires : Dfn K mg "told_of_wires" s_told_of_wires := ⟨f_told_of_wires, _, fun_mk (st := s_told_of_wires) l_told_of_wires c_told_of_wires k_told_of_wires, PySem.W.mg_of X G a_told_of_wires⟩
  have D_is_node : Dfn K mg "is_node" s_is_node := ⟨f_is_node, _, fun_mk (st := s_is_node) l_is_node c_is_node k_is_node, PySem.W.mg_of X G a_is_node⟩
  have D_process_refusal : Dfn K mg "process_refusal" s_process_refusal := ⟨f_process_refusal, _, fun_mk (st := s_process_refusal) l_process_refusal c_process_refusal k_process_refusal, PySem.W.mg_of X G a_process_refusal⟩
  have D_room_refusal : Dfn K mg "room_refusal" s_room_refusal := ⟨f_room_refusal, _, fun_mk (st := s_room_refusal) l_room_refusal c_room_refusal k_room_refusal, PySem.W.mg_of X G a_room_refusal⟩
  have D_air_refusal : Dfn K mg "air_refusal" s_air_refusal := ⟨f_air_refusal, _, fun_mk (st := s_air_refusal) l_air_refusal c_air_refusal k_air_refusal, PySem.W.mg_of X G a_air_refusal⟩
  have D_sending_refusal : Dfn K mg "sending_refusal" s_sending_refusal := ⟨f_sending_refusal, _, fun_mk (st := s_sending_refusal) l_sending_refusal c_sending_refusal k_sending_refusal, PySem.W.mg_of X G a_sending_refusal⟩
  have D_joining_refusal : Dfn K mg "joining_refusal" s_joining_refusal := ⟨f_joining_refusal, _, fun_mk (st := s_joining_refusal) l_joining_refusal c_joining_refusal k_joining_refusal, PySem.W.mg_of X G a_joining_refusal⟩
  have D_child_refusal : Dfn K mg "child_refusal" s_child_refusal := ⟨f_child_refusal, _, fun_mk (st := s_child_refusal) l_child_refusal c_child_refusal k_child_refusal, PySem.W.mg_of X G a_child_refusal⟩
  have D_wire_refusal : Dfn K mg "wire_refusal" s_wire_refusal := ⟨f_wire_refusal, _, fun_mk (st := s_wire_refusal) l_wire_refusal c_wire_refusal k_wire_refusal, PySem.W.mg_of X G a_wire_refusal⟩
  have D_start : Dfn K mg "start" s_start := ⟨f_start, _, fun_mk (st := s_start) l_start c_start k_start, PySem.W.mg_of X G a_start⟩
  have D_child : Dfn K mg "child" s_child := ⟨f_child, _, fun_mk (st := s_child) l_child c_child k_child, PySem.W.mg_of X G a_child⟩
  have D_link : Dfn K mg "link" s_link := ⟨f_link, _, fun_mk (st := s_link) l_link c_link k_link, PySem.W.mg_of X G a_link⟩
  have D_cut : Dfn K mg "cut" s_cut := ⟨f_cut, _, fun_mk (st := s_cut) l_cut c_cut k_cut, PySem.W.mg_of X G a_cut⟩
  have D_watch : Dfn K mg "watch" s_watch := ⟨f_watch, _, fun_mk (st := s_watch) l_watch c_watch k_watch, PySem.W.mg_of X G a_watch⟩
  have D_unwatch : Dfn K mg "unwatch" s_unwatch := ⟨f_unwatch, _, fun_mk (st := s_unwatch) l_unwatch c_unwatch k_unwatch, PySem.W.mg_of X G a_unwatch⟩
  have D_ends : Dfn K mg "ends" s_ends := ⟨f_ends, _, fun_mk (st := s_ends) l_ends c_ends k_ends, PySem.W.mg_of X G a_ends⟩
  have D_stop : Dfn K mg "stop" s_stop := ⟨f_stop, _, fun_mk (st := s_stop) l_stop c_stop k_stop, PySem.W.mg_of X G a_stop⟩
  have D_trap : Dfn K mg "trap" s_trap := ⟨f_trap, _, fun_mk (st := s_trap) l_trap c_trap k_trap, PySem.W.mg_of X G a_trap⟩
  have D_say : Dfn K mg "say" s_say := ⟨f_say, _, fun_mk (st := s_say) l_say c_say k_say, PySem.W.mg_of X G a_say⟩
  have D_place_of_first : Dfn K mg "place_of_first" s_place_of_first := ⟨f_place_of_first, _, fun_mk (st := s_place_of_first) l_place_of_first c_place_of_first k_place_of_first, PySem.W.mg_of X G a_place_of_first⟩
  have D_deliver : Dfn K mg "deliver" s_deliver := ⟨f_deliver, _, fun_mk (st := s_deliver) l_deliver c_deliver k_deliver, PySem.W.mg_of X G a_deliver⟩
  have D_turns : Dfn K mg "turns" s_turns := ⟨f_turns, _, fun_mk (st := s_turns) l_turns c_turns k_turns, PySem.W.mg_of X G a_turns⟩
  have D_box : Dfn K mg "box" s_box := ⟨f_box, _, fun_mk (st := s_box) l_box c_box k_box, PySem.W.mg_of X G a_box⟩
  have D_process : Dfn K mg "process" s_process := ⟨f_process, _, fun_mk (st := s_process) l_process c_process k_process, PySem.W.mg_of X G a_process⟩
  have D_air : Dfn K mg "air" s_air := ⟨f_air, _, fun_mk (st := s_air) l_air c_air k_air, PySem.W.mg_of X G a_air⟩
  have D_break_wire : Dfn K mg "break_wire" s_break_wire := ⟨f_break_wire, _, fun_mk (st := s_break_wire) l_break_wire c_break_wire k_break_wire, PySem.W.mg_of X G a_break_wire⟩
  have D_notice : Dfn K mg "notice" s_notice := ⟨f_notice, _, fun_mk (st := s_notice) l_notice c_notice k_notice, PySem.W.mg_of X G a_notice⟩
  have D_join : Dfn K mg "join" s_join := ⟨f_join, _, fun_mk (st := s_join) l_join c_join k_join, PySem.W.mg_of X G a_join⟩
  have D_wires : Dfn K mg "wires" s_wires := ⟨f_wires, _, fun_mk (st := s_wires) l_wires c_wires k_wires, PySem.W.mg_of X G a_wires⟩
  have D_answer : Dfn K mg "answer" s_answer := ⟨f_answer, _, fun_mk (st := s_answer) l_answer c_answer k_answer, PySem.W.mg_of X G a_answer⟩
  have D_answers : Dfn K mg "answers" s_answers := ⟨f_answers, _, fun_mk (st := s_answers) l_answers c_answers k_answers, PySem.W.mg_of X G a_answers⟩
  have D_Process_init : Din K mg "Process" CP "Process.__init__" s_Process_init := ⟨f_Process_init, _, fun_mk (st := s_Process_init) l_Process_init c_Process_init k_Process_init, ⟨mkCP, a_Process_init, i_Process_init, kcCP⟩, PySem.W.mg_of X G aP⟩
  have D_Process_link_holds : Dme K CP "link_holds" "Process.link_holds" s_Process_link_holds := ⟨f_Process_link_holds, _, fun_mk (st := s_Process_link_holds) l_Process_link_holds c_Process_link_holds k_Process_link_holds, ⟨a_Process_link_holds, i_Process_link_holds, k_Process_link_holds⟩⟩
  have D_Process_end_with : Dme K CP "end_with" "Process.end_with" s_Process_end_with := ⟨f_Process_end_with, _, fun_mk (st := s_Process_end_with) l_Process_end_with c_Process_end_with k_Process_end_with, ⟨a_Process_end_with, i_Process_end_with, k_Process_end_with⟩⟩
  have D_World_init : Din K mg "World" CW "World.__init__" s_World_init := ⟨f_World_init, _, fun_mk (st := s_World_init) l_World_init c_World_init k_World_init, ⟨mkCW, a_World_init, i_World_init, kcCW⟩, PySem.W.mg_of X G aW⟩
  have D_World_has_process : Dme K CW "has_process" "World.has_process" s_World_has_process := ⟨f_World_has_process, _, fun_mk (st := s_World_has_process) l_World_has_process c_World_has_process k_World_has_process, ⟨a_World_has_process, i_World_has_process, k_World_has_process⟩⟩
  have D_World_process : Dme K CW "process" "World.process" s_World_process := ⟨f_World_process, _, fun_mk (st := s_World_process) l_World_process c_World_process k_World_process, ⟨a_World_process, i_World_process, k_World_process⟩⟩
  have D_World_new_process : Dme K CW "new_process" "World.new_process" s_World_new_process := ⟨f_World_new_process, _, fun_mk (st := s_World_new_process) l_World_new_process c_World_new_process k_World_new_process, ⟨a_World_new_process, i_World_new_process, k_World_new_process⟩⟩
  have D_World_new_number : Dme K CW "new_number" "World.new_number" s_World_new_number := ⟨f_World_new_number, _, fun_mk (st := s_World_new_number) l_World_new_number c_World_new_number k_World_new_number, ⟨a_World_new_number, i_World_new_number, k_World_new_number⟩⟩
  have D_World_new_connection : Dme K CW "new_connection" "World.new_connection" s_World_new_connection := ⟨f_World_new_connection, _, fun_mk (st := s_World_new_connection) l_World_new_connection c_World_new_connection k_World_new_connection, ⟨a_World_new_connection, i_World_new_connection, k_World_new_connection⟩⟩
  have D_World_send : Dme K CW "send" "World.send" s_World_send := ⟨f_World_send, _, fun_mk (st := s_World_send) l_World_send c_World_send k_World_send, ⟨a_World_send, i_World_send, k_World_send⟩⟩
  have D_World_send_back : Dme K CW "send_back" "World.send_back" s_World_send_back := ⟨f_World_send_back, _, fun_mk (st := s_World_send_back) l_World_send_back c_World_send_back k_World_send_back, ⟨a_World_send_back, i_World_send_back, k_World_send_back⟩⟩
  have D_World_end : Dme K CW "end" "World.end" s_World_end := ⟨f_World_end, _, fun_mk (st := s_World_end) l_World_end c_World_end k_World_end, ⟨a_World_end, i_World_end, k_World_end⟩⟩
  have D_World_end_comes : Dme K CW "end_comes" "World.end_comes" s_World_end_comes := ⟨f_World_end_comes, _, fun_mk (st := s_World_end_comes) l_World_end_comes c_World_end_comes k_World_end_comes, ⟨a_World_end_comes, i_World_end_comes, k_World_end_comes⟩⟩
  refine ⟨PySem.W.fnOf "answers" "answers" (defArgs s_answers) (defBody s_answers) (defScope s_answers) .none kV_answers dc_answers pm_answers an_answers cd_answers ct_answers, fun s us hu => match us, hu with | [_], _ => .of_eq rfl, fun base _ _ => ?_⟩
  have t_Process_init := mak_process (P := P) (w := w) (base := base) (c := c) T (D := D_Process_init)
  have t_Process_link_holds := met_holds (P := P) (w := w) (base := base) (c := c) T (D := D_Process_link_holds)
  have t_Process_end_with := met_endWith (P := P) (w := w) (base := base) (c := c) T (D := D_Process_end_with)
  have t_comes_back := cal_back (P := P) (w := w) (base := base) (c := c) T (D := D_comes_back)
  have t_wire_between := cal_wire (P := P) (w := w) (base := base) (c := c) T (D := D_wire_between)
  have t_World_init := mak_world (P := P) (w := w) (base := base) (c := c) T (D := D_World_init)
  have t_World_has_process := met_has (P := P) (w := w) (base := base) (c := c) T (D := D_World_has_process)
  have t_World_process := met_proc (P := P) (w := w) (base := base) (c := c) T (D := D_World_process)
  have t_World_new_process := met_newp (P := P) (w := w) (base := base) (c := c) T (D := D_World_new_process) (k_Process := t_Process_init)
  have t_World_new_number := met_num (P := P) (w := w) (base := base) (c := c) T (D := D_World_new_number)
  have t_World_new_connection := met_con (P := P) (w := w) (base := base) (c := c) T (D := D_World_new_connection)
  have t_World_send_back := met_sendBack (P := P) (w := w) (base := base) (c := c) T (D := D_World_send_back) (c_comes_back := t_comes_back)
  have t_World_send := met_send (P := P) (w := w) (base := base) (c := c) T (D := D_World_send) (m_World_process := t_World_process) (m_World_send_back := t_World_send_back) (c_wire_between := t_wire_between)
  have t_World_end := met_end (P := P) (w := w) (base := base) (c := c) T (D := D_World_end) (m_Process_end_with := t_Process_end_with) (m_Process_link_holds := t_Process_link_holds) (m_World_process := t_World_process) (m_World_send := t_World_send)
  have t_World_end_comes := met_endComes (P := P) (w := w) (base := base) (c := c) T (D := D_World_end_comes) (m_World_end := t_World_end) (m_World_process := t_World_process)
  have t_word_arrives := cal_word (P := P) (w := w) (base := base) (c := c) T (D := D_word_arrives) (m_World_process := t_World_process)
  have t_link_arrives := cal_link (P := P) (w := w) (base := base) (c := c) T (D := D_link_arrives) (m_World_process := t_World_process)
  have t_cut_arrives := cal_cut (P := P) (w := w) (base := base) (c := c) T (D := D_cut_arrives) (m_Process_link_holds := t_Process_link_holds) (m_World_process := t_World_process) (m_World_send := t_World_send)
  have t_heard_arrives := cal_heard (P := P) (w := w) (base := base) (c := c) T (D := D_heard_arrives) (m_World_process := t_World_process)
  have t_ended_arrives := cal_ended (P := P) (w := w) (base := base) (c := c) T (D := D_ended_arrives) (m_Process_link_holds := t_Process_link_holds) (m_World_end_comes := t_World_end_comes) (m_World_process := t_World_process)
  have t_stop_arrives := cal_stop (P := P) (w := w) (base := base) (c := c) T (D := D_stop_arrives) (m_World_end := t_World_end) (m_World_end_comes := t_World_end_comes)
  have t_watch_arrives := cal_watch (P := P) (w := w) (base := base) (c := c) T (D := D_watch_arrives) (m_World_process := t_World_process)
  have t_unwatch_arrives := cal_unwatch (P := P) (w := w) (base := base) (c := c) T (D := D_unwatch_arrives) (m_World_process := t_World_process)
  have t_gone_arrives := cal_gone (P := P) (w := w) (base := base) (c := c) T (D := D_gone_arrives) (m_World_process := t_World_process)
  have t_arrives_at_ended := cal_dead (P := P) (w := w) (base := base) (c := c) T (D := D_arrives_at_ended) (m_World_send := t_World_send) (c_comes_back := t_comes_back)
  have t_counts := cal_counts (P := P) (w := w) (base := base) (c := c) T (D := D_counts) (m_World_process := t_World_process)
  have hG : ∀ (j : Nat) (f : Addr), c.gs[j]? = some f → Held P w K mg base 6 f (spGets c j) := fun j f hf => by
    match j, hf with
    | 0, hf => cases hf; exact t_word_arrives.held (by decide) (PySem.W.mg_of X G a_word_arrives)
    | 1, hf => cases hf; exact t_link_arrives.held (by decide) (PySem.W.mg_of X G a_link_arrives)
    | 2, hf => cases hf; exact t_cut_arrives.held (by decide) (PySem.W.mg_of X G a_cut_arrives)
    | 3, hf => cases hf; exact t_heard_arrives.held (by decide) (PySem.W.mg_of X G a_heard_arrives)
    | 4, hf => cases hf; exact t_ended_arrives.held (by decide) (PySem.W.mg_of X G a_ended_arrives)
    | 5, hf => cases hf; exact t_stop_arrives.held (by decide) (PySem.W.mg_of X G a_stop_arrives)
    | 6, hf => cases hf; exact t_watch_arrives.held (by decide) (PySem.W.mg_of X G a_watch_arrives)
    | 7, hf => cases hf; exact t_unwatch_arrives.held (by decide) (PySem.W.mg_of X G a_unwatch_arrives)
    | 8, hf => cases hf; exact t_gone_arrives.held (by decide) (PySem.W.mg_of X G a_gone_arrives)
    | j + 9, hf => cases hf
  have t_arrive := cal_arrive (P := P) (w := w) (base := base) (c := c) T (D := D_arrive) (m_World_process := t_World_process) (c_arrives_at_ended := t_arrives_at_ended) (c_counts := t_counts) (hG := hG)
  have t_numbers_of_those_on := cal_those (P := P) (w := w) (base := base) (c := c) T (D := D_numbers_of_those_on) (m_World_process := t_World_process)
  have t_lose_watched_by := cal_loseD (P := P) (w := w) (base := base) (c := c) T (D := D_lose_watched_by) (m_World_process := t_World_process) (c_numbers_of_those_on := t_numbers_of_those_on)
  have t_lose_watches := cal_loseW (P := P) (w := w) (base := base) (c := c) T (D := D_lose_watches) (m_World_process := t_World_process) (c_numbers_of_those_on := t_numbers_of_those_on)
  have t_lose_links := cal_loseL (P := P) (w := w) (base := base) (c := c) T (D := D_lose_links) (m_Process_link_holds := t_Process_link_holds) (m_World_end_comes := t_World_end_comes) (m_World_process := t_World_process)
  have t_notice_loss := cal_noticeLoss (P := P) (w := w) (base := base) (c := c) T (D := D_notice_loss) (m_World_process := t_World_process) (c_lose_links := t_lose_links) (c_lose_watched_by := t_lose_watched_by) (c_lose_watches := t_lose_watches)
  have t_join_nodes := cal_joinNodes (P := P) (w := w) (base := base) (c := c) T (D := D_join_nodes) (m_World_new_connection := t_World_new_connection) (c_notice_loss := t_notice_loss) (c_wire_between := t_wire_between)
  have t_one_if := cal_one (P := P) (w := w) (base := base) (c := c) T (D := D_one_if)
  have t_told_of_joined := cal_joined (P := P) (w := w) (base := base) (c := c) T (D := D_told_of_joined)
  have t_told_of_links := cal_links (P := P) (w := w) (base := base) (c := c) T (D := D_told_of_links)
  have t_told_of_process := cal_toldP (P := P) (w := w) (base := base) (c := c) T (D := D_told_of_process) (c_one_if := t_one_if) (c_told_of_joined := t_told_of_joined) (c_told_of_links := t_told_of_links)
  have t_told_of_box := cal_tbox (P := P) (w := w) (base := base) (c := c) T (D := D_told_of_box)
  have t_told_of_air := cal_tair (P := P) (w := w) (base := base) (c := c) T (D := D_told_of_air)
  have t_told_of_wires := cal_twires (P := P) (w := w) (base := base) (c := c) T (D := D_told_of_wires) (c_one_if := t_one_if)
  have t_is_node := cal_node (P := P) (w := w) (base := base) (c := c) T (D := D_is_node)
  have t_process_refusal := cal_pref (P := P) (w := w) (base := base) (c := c) T (D := D_process_refusal) (m_World_has_process := t_World_has_process) (m_World_process := t_World_process)
  have t_room_refusal := cal_room (P := P) (w := w) (base := base) (c := c) T (D := D_room_refusal)
  have t_air_refusal := cal_airr (P := P) (w := w) (base := base) (c := c) T (D := D_air_refusal)
  have t_sending_refusal := cal_sref (P := P) (w := w) (base := base) (c := c) T (D := D_sending_refusal) (m_World_has_process := t_World_has_process) (c_air_refusal := t_air_refusal) (c_process_refusal := t_process_refusal)
  have t_joining_refusal := cal_jref (P := P) (w := w) (base := base) (c := c) T (D := D_joining_refusal) (c_sending_refusal := t_sending_refusal)
  have t_child_refusal := cal_cref (P := P) (w := w) (base := base) (c := c) T (D := D_child_refusal) (c_process_refusal := t_process_refusal) (c_room_refusal := t_room_refusal)
  have t_wire_refusal := cal_wref (P := P) (w := w) (base := base) (c := c) T (D := D_wire_refusal) (c_is_node := t_is_node)
  have t_start := cal_start (P := P) (w := w) (base := base) (c := c) T (D := D_start) (m_World_new_process := t_World_new_process) (c_is_node := t_is_node) (c_room_refusal := t_room_refusal)
  have t_child := cal_child (P := P) (w := w) (base := base) (c := c) T (D := D_child) (m_World_new_number := t_World_new_number) (m_World_new_process := t_World_new_process) (m_World_process := t_World_process) (c_child_refusal := t_child_refusal)
  have t_link := cal_link' (P := P) (w := w) (base := base) (c := c) T (D := D_link) (m_Process_link_holds := t_Process_link_holds) (m_World_process := t_World_process) (m_World_send := t_World_send) (c_joining_refusal := t_joining_refusal)
  have t_cut := cal_cut' (P := P) (w := w) (base := base) (c := c) T (D := D_cut) (m_Process_link_holds := t_Process_link_holds) (m_World_new_number := t_World_new_number) (m_World_process := t_World_process) (m_World_send := t_World_send) (c_joining_refusal := t_joining_refusal)
  have t_watch := cal_watch' (P := P) (w := w) (base := base) (c := c) T (D := D_watch) (m_World_new_number := t_World_new_number) (m_World_process := t_World_process) (m_World_send := t_World_send) (c_joining_refusal := t_joining_refusal)
  have t_unwatch := cal_unwatch' (P := P) (w := w) (base := base) (c := c) T (D := D_unwatch) (m_World_process := t_World_process) (m_World_send := t_World_send) (c_air_refusal := t_air_refusal) (c_process_refusal := t_process_refusal)
  have t_ends := cal_ends (P := P) (w := w) (base := base) (c := c) T (D := D_ends) (m_World_end := t_World_end) (c_process_refusal := t_process_refusal)
  have t_stop := cal_stop' (P := P) (w := w) (base := base) (c := c) T (D := D_stop) (m_World_send := t_World_send) (c_sending_refusal := t_sending_refusal)
  have t_trap := cal_trap (P := P) (w := w) (base := base) (c := c) T (D := D_trap) (m_World_process := t_World_process) (c_process_refusal := t_process_refusal)
  have t_say := cal_say (P := P) (w := w) (base := base) (c := c) T (D := D_say) (m_World_send := t_World_send) (c_sending_refusal := t_sending_refusal)
  have t_place_of_first := cal_place (P := P) (w := w) (base := base) (c := c) T (D := D_place_of_first)
  have t_deliver := cal_deliver (P := P) (w := w) (base := base) (c := c) T (D := D_deliver) (m_World_has_process := t_World_has_process) (c_arrive := t_arrive) (c_one_if := t_one_if) (c_place_of_first := t_place_of_first)
  have t_turns := cal_turns (P := P) (w := w) (base := base) (c := c) T (D := D_turns) (c_arrive := t_arrive)
  have t_box := cal_box (P := P) (w := w) (base := base) (c := c) T (D := D_box) (m_World_has_process := t_World_has_process) (m_World_process := t_World_process) (c_told_of_box := t_told_of_box)
  have t_process := cal_process (P := P) (w := w) (base := base) (c := c) T (D := D_process) (m_World_has_process := t_World_has_process) (m_World_process := t_World_process) (c_told_of_process := t_told_of_process)
  have t_air := cal_air (P := P) (w := w) (base := base) (c := c) T (D := D_air) (c_told_of_air := t_told_of_air)
  have t_break_wire := cal_break (P := P) (w := w) (base := base) (c := c) T (D := D_break_wire) (c_wire_between := t_wire_between) (c_wire_refusal := t_wire_refusal)
  have t_notice := cal_notice (P := P) (w := w) (base := base) (c := c) T (D := D_notice) (c_notice_loss := t_notice_loss) (c_wire_between := t_wire_between) (c_wire_refusal := t_wire_refusal)
  have t_join := cal_join (P := P) (w := w) (base := base) (c := c) T (D := D_join) (c_join_nodes := t_join_nodes) (c_wire_refusal := t_wire_refusal)
  have t_wires := cal_wires (P := P) (w := w) (base := base) (c := c) T (D := D_wires) (c_told_of_wires := t_told_of_wires)
  have hF : ∀ (j : Nat) (f : Addr), c.fs[j]? = some f → Held P w K mg base 9 f (spCall c j) := fun j f hf => by
    match j, hf with
    | 0, hf => cases hf; exact t_start.held (by decide) (PySem.W.mg_of X G a_start)
    | 1, hf => cases hf; exact t_child.held (by decide) (PySem.W.mg_of X G a_child)
    | 2, hf => cases hf; exact t_link.held (by decide) (PySem.W.mg_of X G a_link)
    | 3, hf => cases hf; exact t_cut.held (by decide) (PySem.W.mg_of X G a_cut)
    | 4, hf => cases hf; exact t_watch.held (by decide) (PySem.W.mg_of X G a_watch)
    | 5, hf => cases hf; exact t_unwatch.held (by decide) (PySem.W.mg_of X G a_unwatch)
    | 6, hf => cases hf; exact t_ends.held (by decide) (PySem.W.mg_of X G a_ends)
    | 7, hf => cases hf; exact t_stop.held (by decide) (PySem.W.mg_of X G a_stop)
    | 8, hf => cases hf; exact t_trap.held (by decide) (PySem.W.mg_of X G a_trap)
    | 9, hf => cases hf; exact t_say.held (by decide) (PySem.W.mg_of X G a_say)
    | 10, hf => cases hf; exact t_deliver.held (by decide) (PySem.W.mg_of X G a_deliver)
    | 11, hf => cases hf; exact t_turns.held (by decide) (PySem.W.mg_of X G a_turns)
    | 12, hf => cases hf; exact t_box.held (by decide) (PySem.W.mg_of X G a_box)
    | 13, hf => cases hf; exact t_process.held (by decide) (PySem.W.mg_of X G a_process)
    | 14, hf => cases hf; exact t_air.held (by decide) (PySem.W.mg_of X G a_air)
    | 15, hf => cases hf; exact t_break_wire.held (by decide) (PySem.W.mg_of X G a_break_wire)
    | 16, hf => cases hf; exact t_notice.held (by decide) (PySem.W.mg_of X G a_notice)
    | 17, hf => cases hf; exact t_join.held (by decide) (PySem.W.mg_of X G a_join)
    | 18, hf => cases hf; exact t_wires.held (by decide) (PySem.W.mg_of X G a_wires)
    | j + 19, hf => cases hf
  have t_answer := cal_answer (P := P) (w := w) (base := base) (c := c) T (D := D_answer) (hF := hF)
  exact ok_answers (c := c) T (fun_mk (st := s_answers) l_answers c_answers k_answers) t_World_init t_answer
end PN
end
open PySem PySem.W PyProof.Rows
set_option maxRecDepth 100000 in
set_option maxHeartbeats 8000000 in
theorem PySem.Challenge.cw_partednodes_s01_answers_holds : PySem.Challenge.rw_partednodes_s01_answers.Holds := by
  w_on; k_headS; (case hw => exact ⟨[.list [.int 14]], by decide +kernel, by decide +kernel⟩)
  k_fillS
  refine L2.walk_specK (r := PySem.Challenge.rw_partednodes_s01_answers) (k := 11) (CX := L2.CX0) (ps := ["calls"]) (sp := PN.spAns) (by decide +kernel) rfl rfl ⟨rfl, by decide, by decide⟩ (fun w h Y => PySem.W.kIn_of Y) ?F ?S (fun _ _ _ _ z => z)
  case F =>
    intro w mg fa h Y KX G hmg
    refine' PN.all_mk KX G hmg ?aP ?aW ?a_comes_back ?l_comes_back ?c_comes_back ?k_comes_back ?a_wire_between ?l_wire_between ?c_wire_between ?k_wire_between ?a_word_arrives ?l_word_arrives ?c_word_arrives ?k_word_arrives ?a_link_arrives ?l_link_arrives ?c_link_arrives ?k_link_arrives ?a_cut_arrives ?l_cut_arrives ?c_cut_arrives ?k_cut_arrives ?a_heard_arrives ?l_heard_arrives ?c_heard_arrives ?k_heard_arrives ?a_ended_arrives ?l_ended_arrives ?c_ended_arrives ?k_ended_arrives ?a_stop_arrives ?l_stop_arrives ?c_stop_arrives ?k_stop_arrives ?a_watch_arrives ?l_watch_arrives ?c_watch_arrives ?k_watch_arrives ?a_unwatch_arrives ?l_unwatch_arrives ?c_unwatch_arrives ?k_unwatch_arrives ?a_gone_arrives ?l_gone_arrives ?c_gone_arrives ?k_gone_arrives ?a_arrives_at_ended ?l_arrives_at_ended ?c_arrives_at_ended ?k_arrives_at_ended ?a_counts ?l_counts ?c_counts ?k_counts ?a_arrive ?l_arrive ?c_arrive ?k_arrive ?a_numbers_of_those_on ?l_numbers_of_those_on ?c_numbers_of_those_on ?k_numbers_of_those_on ?a_lose_watched_by ?l_lose_watched_by ?c_lose_watched_by ?k_lose_watched_by ?a_lose_watches ?l_lose_watches ?c_lose_watches ?k_lose_watches ?a_lose_links ?l_lose_links ?c_lose_links ?k_lose_links ?a_notice_loss ?l_notice_loss ?c_notice_loss ?k_notice_loss ?a_join_nodes ?l_join_nodes ?c_join_nodes ?k_join_nodes ?a_one_if ?l_one_if ?c_one_if ?k_one_if ?a_told_of_joined ?l_told_of_joined ?c_told_of_joined ?k_told_of_joined ?a_told_of_links ?l_told_of_links ?c_told_of_links ?k_told_of_links ?a_told_of_process ?l_told_of_process ?c_told_of_process ?k_told_of_process ?a_told_of_box ?l_told_of_box ?c_told_of_box ?k_told_of_box ?a_told_of_air ?l_told_of_air ?c_told_of_air ?k_told_of_air ?a_told_of_wires ?l_told_of_wires ?c_told_of_wires ?k_told_of_wires ?a_is_node ?l_is_node ?c_is_node ?k_is_node ?a_process_refusal ?l_process_refusal ?c_process_refusal ?k_process_refusal ?a_room_refusal ?l_room_refusal ?c_room_refusal ?k_room_refusal ?a_air_refusal ?l_air_refusal ?c_air_refusal ?k_air_refusal ?a_sending_refusal ?l_sending_refusal ?c_sending_refusal ?k_sending_refusal ?a_joining_refusal ?l_joining_refusal ?c_joining_refusal ?k_joining_refusal ?a_child_refusal ?l_child_refusal ?c_child_refusal ?k_child_refusal ?a_wire_refusal ?l_wire_refusal ?c_wire_refusal ?k_wire_refusal ?a_start ?l_start ?c_start ?k_start ?a_child ?l_child ?c_child ?k_child ?a_link ?l_link ?c_link ?k_link ?a_cut ?l_cut ?c_cut ?k_cut ?a_watch ?l_watch ?c_watch ?k_watch ?a_unwatch ?l_unwatch ?c_unwatch ?k_unwatch ?a_ends ?l_ends ?c_ends ?k_ends ?a_stop ?l_stop ?c_stop ?k_stop ?a_trap ?l_trap ?c_trap ?k_trap ?a_say ?l_say ?c_say ?k_say ?a_place_of_first ?l_place_of_first ?c_place_of_first ?k_place_of_first ?a_deliver ?l_deliver ?c_deliver ?k_deliver ?a_turns ?l_turns ?c_turns ?k_turns ?a_box ?l_box ?c_box ?k_box ?a_process ?l_process ?c_process ?k_process ?a_air ?l_air ?c_air ?k_air ?a_break_wire ?l_break_wire ?c_break_wire ?k_break_wire ?a_notice ?l_notice ?c_notice ?k_notice ?a_join ?l_join ?c_join ?k_join ?a_wires ?l_wires ?c_wires ?k_wires ?a_answer ?l_answer ?c_answer ?k_answer ?a_answers ?l_answers ?c_answers ?k_answers ?a_Process_init ?i_Process_init ?l_Process_init ?c_Process_init ?k_Process_init ?a_Process_link_holds ?i_Process_link_holds ?l_Process_link_holds ?c_Process_link_holds ?k_Process_link_holds ?a_Process_end_with ?i_Process_end_with ?l_Process_end_with ?c_Process_end_with ?k_Process_end_with ?a_World_init ?i_World_init ?l_World_init ?c_World_init ?k_World_init ?a_World_has_process ?i_World_has_process ?l_World_has_process ?c_World_has_process ?k_World_has_process ?a_World_process ?i_World_process ?l_World_process ?c_World_process ?k_World_process ?a_World_new_process ?i_World_new_process ?l_World_new_process ?c_World_new_process ?k_World_new_process ?a_World_new_number ?i_World_new_number ?l_World_new_number ?c_World_new_number ?k_World_new_number ?a_World_new_connection ?i_World_new_connection ?l_World_new_connection ?c_World_new_connection ?k_World_new_connection ?a_World_send ?i_World_send ?l_World_send ?c_World_send ?k_World_send ?a_World_send_back ?i_World_send_back ?l_World_send_back ?c_World_send_back ?k_World_send_back ?a_World_end ?i_World_end ?l_World_end ?c_World_end ?k_World_end ?a_World_end_comes ?i_World_end_comes ?l_World_end_comes ?c_World_end_comes ?k_World_end_comes ?pgCP ?hdCP ?poCP ?saCP ?mkCP ?kcCP ?n_node ?n_lives ?n_why ?n_traps ?n_links ?n_watches ?n_watched_by ?n_box ?pgCW ?hdCW ?poCW ?saCW ?mkCW ?kcCW ?n_processes ?n_air ?n_last_number ?n_connections ?n_last_connection ?n_broken ?z_HOLDS ?z_WORD_CAME ?z_LINKED_ONE_ENDED ?z_WATCHED_ONE_ENDED ?z_END_WAS_SENT ?z_WORD ?z_LINK ?z_CUT ?z_HEARD ?z_ENDED ?z_STOP ?z_WATCH ?z_UNWATCH ?z_GONE ?z_AS_IT_SHOULD ?z_TO_BE_KILLED ?z_KILLED ?z_NOBODY_THERE ?z_CONNECTION_LOST ?z_NO_CONNECTION ?z_WITHIN_A_NODE ?z_FITS ?z_NO_SUCH ?z_NOT_SO_NOW ?z_NONE_ON_ITS_WAY ?z_TOO_MANY ?z_HAS_ENDED ?z_NODES ?z_MOST_PROCESSES ?z_MOST_SIGNALS ?z_MOST_TURNS ?z_GREATEST_WHY ?z_LINKED ?z_WATCHED ?b_len ?b_min ?b_max ?b_sorted ?b_list ?b_range ?b_enumerate ?aC ?lC ?aN ?lN ?aL ?lL
    (case aP => k_is)
    (case aW => k_is)
    (case a_comes_back => k_is)
    (case l_comes_back => k_is)
    (case c_comes_back => k_is)
    (case k_comes_back => k_is)
    (case a_wire_between => k_is)
    (case l_wire_between => k_is)
    (case c_wire_between => k_is)
    (case k_wire_between => k_is)
    (case a_word_arrives => k_is)
    (case l_word_arrives => k_is)
    (case c_word_arrives => k_is)
    (case k_word_arrives => k_is)
    (case a_link_arrives => k_is)
    (case l_link_arrives => k_is)
    (case c_link_arrives => k_is)
    (case k_link_arrives => k_is)
    (case a_cut_arrives => k_is)
    (case l_cut_arrives => k_is)
    (case c_cut_arrives => k_is)
    (case k_cut_arrives => k_is)
    (case a_heard_arrives => k_is)
    (case l_heard_arrives => k_is)
    (case c_heard_arrives => k_is)
    (case k_heard_arrives => k_is)
    (case a_ended_arrives => k_is)
    (case l_ended_arrives => k_is)
    (case c_ended_arrives => k_is)
    (case k_ended_arrives => k_is)
    (case a_stop_arrives => k_is)
    (case l_stop_arrives => k_is)
    (case c_stop_arrives => k_is)
    (case k_stop_arrives => k_is)
    (case a_watch_arrives => k_is)
    (case l_watch_arrives => k_is)
    (case c_watch_arrives => k_is)
    (case k_watch_arrives => k_is)
    (case a_unwatch_arrives => k_is)
    (case l_unwatch_arrives => k_is)
    (case c_unwatch_arrives => k_is)
    (case k_unwatch_arrives => k_is)
    (case a_gone_arrives => k_is)
    (case l_gone_arrives => k_is)
    (case c_gone_arrives => k_is)
    (case k_gone_arrives => k_is)
    (case a_arrives_at_ended => k_is)
    (case l_arrives_at_ended => k_is)
    (case c_arrives_at_ended => k_is)
    (case k_arrives_at_ended => k_is)
    (case a_counts => k_is)
    (case l_counts => k_is)
    (case c_counts => k_is)
    (case k_counts => k_is)
    (case a_arrive => k_is)
    (case l_arrive => k_is)
    (case c_arrive => k_is)
    (case k_arrive => k_is)
    (case a_numbers_of_those_on => k_is)
    (case l_numbers_of_those_on => k_is)
    (case c_numbers_of_those_on => k_is)
    (case k_numbers_of_those_on => k_is)
    (case a_lose_watched_by => k_is)
    (case l_lose_watched_by => k_is)
    (case c_lose_watched_by => k_is)
    (case k_lose_watched_by => k_is)
    (case a_lose_watches => k_is)
    (case l_lose_watches => k_is)
    (case c_lose_watches => k_is)
    (case k_lose_watches => k_is)
    (case a_lose_links => k_is)
    (case l_lose_links => k_is)
    (case c_lose_links => k_is)
    (case k_lose_links => k_is)
    (case a_notice_loss => k_is)
    (case l_notice_loss => k_is)
    (case c_notice_loss => k_is)
    (case k_notice_loss => k_is)
    (case a_join_nodes => k_is)
    (case l_join_nodes => k_is)
    (case c_join_nodes => k_is)
    (case k_join_nodes => k_is)
    (case a_one_if => k_is)
    (case l_one_if => k_is)
    (case c_one_if => k_is)
    (case k_one_if => k_is)
    (case a_told_of_joined => k_is)
    (case l_told_of_joined => k_is)
    (case c_told_of_joined => k_is)
    (case k_told_of_joined => k_is)
    (case a_told_of_links => k_is)
    (case l_told_of_links => k_is)
    (case c_told_of_links => k_is)
    (case k_told_of_links => k_is)
    (case a_told_of_process => k_is)
    (case l_told_of_process => k_is)
    (case c_told_of_process => k_is)
    (case k_told_of_process => k_is)
    (case a_told_of_box => k_is)
    (case l_told_of_box => k_is)
    (case c_told_of_box => k_is)
    (case k_told_of_box => k_is)
    (case a_told_of_air => k_is)
    (case l_told_of_air => k_is)
    (case c_told_of_air => k_is)
    (case k_told_of_air => k_is)
    (case a_told_of_wires => k_is)
    (case l_told_of_wires => k_is)
    (case c_told_of_wires => k_is)
    (case k_told_of_wires => k_is)
    (case a_is_node => k_is)
    (case l_is_node => k_is)
    (case c_is_node => k_is)
    (case k_is_node => k_is)
    (case a_process_refusal => k_is)
    (case l_process_refusal => k_is)
    (case c_process_refusal => k_is)
    (case k_process_refusal => k_is)
    (case a_room_refusal => k_is)
    (case l_room_refusal => k_is)
    (case c_room_refusal => k_is)
    (case k_room_refusal => k_is)
    (case a_air_refusal => k_is)
    (case l_air_refusal => k_is)
    (case c_air_refusal => k_is)
    (case k_air_refusal => k_is)
    (case a_sending_refusal => k_is)
    (case l_sending_refusal => k_is)
    (case c_sending_refusal => k_is)
    (case k_sending_refusal => k_is)
    (case a_joining_refusal => k_is)
    (case l_joining_refusal => k_is)
    (case c_joining_refusal => k_is)
    (case k_joining_refusal => k_is)
    (case a_child_refusal => k_is)
    (case l_child_refusal => k_is)
    (case c_child_refusal => k_is)
    (case k_child_refusal => k_is)
    (case a_wire_refusal => k_is)
    (case l_wire_refusal => k_is)
    (case c_wire_refusal => k_is)
    (case k_wire_refusal => k_is)
    (case a_start => k_is)
    (case l_start => k_is)
    (case c_start => k_is)
    (case k_start => k_is)
    (case a_child => k_is)
    (case l_child => k_is)
    (case c_child => k_is)
    (case k_child => k_is)
    (case a_link => k_is)
    (case l_link => k_is)
    (case c_link => k_is)
    (case k_link => k_is)
    (case a_cut => k_is)
    (case l_cut => k_is)
    (case c_cut => k_is)
    (case k_cut => k_is)
    (case a_watch => k_is)
    (case l_watch => k_is)
    (case c_watch => k_is)
    (case k_watch => k_is)
    (case a_unwatch => k_is)
    (case l_unwatch => k_is)
    (case c_unwatch => k_is)
    (case k_unwatch => k_is)
    (case a_ends => k_is)
    (case l_ends => k_is)
    (case c_ends => k_is)
    (case k_ends => k_is)
    (case a_stop => k_is)
    (case l_stop => k_is)
    (case c_stop => k_is)
    (case k_stop => k_is)
    (case a_trap => k_is)
    (case l_trap => k_is)
    (case c_trap => k_is)
    (case k_trap => k_is)
    (case a_say => k_is)
    (case l_say => k_is)
    (case c_say => k_is)
    (case k_say => k_is)
    (case a_place_of_first => k_is)
    (case l_place_of_first => k_is)
    (case c_place_of_first => k_is)
    (case k_place_of_first => k_is)
    (case a_deliver => k_is)
    (case l_deliver => k_is)
    (case c_deliver => k_is)
    (case k_deliver => k_is)
    (case a_turns => k_is)
    (case l_turns => k_is)
    (case c_turns => k_is)
    (case k_turns => k_is)
    (case a_box => k_is)
    (case l_box => k_is)
    (case c_box => k_is)
    (case k_box => k_is)
    (case a_process => k_is)
    (case l_process => k_is)
    (case c_process => k_is)
    (case k_process => k_is)
    (case a_air => k_is)
    (case l_air => k_is)
    (case c_air => k_is)
    (case k_air => k_is)
    (case a_break_wire => k_is)
    (case l_break_wire => k_is)
    (case c_break_wire => k_is)
    (case k_break_wire => k_is)
    (case a_notice => k_is)
    (case l_notice => k_is)
    (case c_notice => k_is)
    (case k_notice => k_is)
    (case a_join => k_is)
    (case l_join => k_is)
    (case c_join => k_is)
    (case k_join => k_is)
    (case a_wires => k_is)
    (case l_wires => k_is)
    (case c_wires => k_is)
    (case k_wires => k_is)
    (case a_answer => k_is)
    (case l_answer => k_is)
    (case c_answer => k_is)
    (case k_answer => k_is)
    (case a_answers => k_is)
    (case l_answers => k_is)
    (case c_answers => k_is)
    (case k_answers => k_is)
    (case a_Process_init => k_is)
    (case i_Process_init => k_is)
    (case l_Process_init => k_is)
    (case c_Process_init => k_is)
    (case k_Process_init => k_is)
    (case a_Process_link_holds => k_is)
    (case i_Process_link_holds => k_is)
    (case l_Process_link_holds => k_is)
    (case c_Process_link_holds => k_is)
    (case k_Process_link_holds => k_is)
    (case a_Process_end_with => k_is)
    (case i_Process_end_with => k_is)
    (case l_Process_end_with => k_is)
    (case c_Process_end_with => k_is)
    (case k_Process_end_with => k_is)
    (case a_World_init => k_is)
    (case i_World_init => k_is)
    (case l_World_init => k_is)
    (case c_World_init => k_is)
    (case k_World_init => k_is)
    (case a_World_has_process => k_is)
    (case i_World_has_process => k_is)
    (case l_World_has_process => k_is)
    (case c_World_has_process => k_is)
    (case k_World_has_process => k_is)
    (case a_World_process => k_is)
    (case i_World_process => k_is)
    (case l_World_process => k_is)
    (case c_World_process => k_is)
    (case k_World_process => k_is)
    (case a_World_new_process => k_is)
    (case i_World_new_process => k_is)
    (case l_World_new_process => k_is)
    (case c_World_new_process => k_is)
    (case k_World_new_process => k_is)
    (case a_World_new_number => k_is)
    (case i_World_new_number => k_is)
    (case l_World_new_number => k_is)
    (case c_World_new_number => k_is)
    (case k_World_new_number => k_is)
    (case a_World_new_connection => k_is)
    (case i_World_new_connection => k_is)
    (case l_World_new_connection => k_is)
    (case c_World_new_connection => k_is)
    (case k_World_new_connection => k_is)
    (case a_World_send => k_is)
    (case i_World_send => k_is)
    (case l_World_send => k_is)
    (case c_World_send => k_is)
    (case k_World_send => k_is)
    (case a_World_send_back => k_is)
    (case i_World_send_back => k_is)
    (case l_World_send_back => k_is)
    (case c_World_send_back => k_is)
    (case k_World_send_back => k_is)
    (case a_World_end => k_is)
    (case i_World_end => k_is)
    (case l_World_end => k_is)
    (case c_World_end => k_is)
    (case k_World_end => k_is)
    (case a_World_end_comes => k_is)
    (case i_World_end_comes => k_is)
    (case l_World_end_comes => k_is)
    (case c_World_end_comes => k_is)
    (case k_World_end_comes => k_is)
    (case pgCP => k_is)
    (case hdCP => k_is)
    (case poCP => k_is)
    (case saCP => k_is)
    (case mkCP => k_is)
    (case kcCP => k_is)
    (case n_node => k_is)
    (case n_lives => k_is)
    (case n_why => k_is)
    (case n_traps => k_is)
    (case n_links => k_is)
    (case n_watches => k_is)
    (case n_watched_by => k_is)
    (case n_box => k_is)
    (case pgCW => k_is)
    (case hdCW => k_is)
    (case poCW => k_is)
    (case saCW => k_is)
    (case mkCW => k_is)
    (case kcCW => k_is)
    (case n_processes => k_is)
    (case n_air => k_is)
    (case n_last_number => k_is)
    (case n_connections => k_is)
    (case n_last_connection => k_is)
    (case n_broken => k_is)
    (case z_HOLDS => k_is)
    (case z_WORD_CAME => k_is)
    (case z_LINKED_ONE_ENDED => k_is)
    (case z_WATCHED_ONE_ENDED => k_is)
    (case z_END_WAS_SENT => k_is)
    (case z_WORD => k_is)
    (case z_LINK => k_is)
    (case z_CUT => k_is)
    (case z_HEARD => k_is)
    (case z_ENDED => k_is)
    (case z_STOP => k_is)
    (case z_WATCH => k_is)
    (case z_UNWATCH => k_is)
    (case z_GONE => k_is)
    (case z_AS_IT_SHOULD => k_is)
    (case z_TO_BE_KILLED => k_is)
    (case z_KILLED => k_is)
    (case z_NOBODY_THERE => k_is)
    (case z_CONNECTION_LOST => k_is)
    (case z_NO_CONNECTION => k_is)
    (case z_WITHIN_A_NODE => k_is)
    (case z_FITS => k_is)
    (case z_NO_SUCH => k_is)
    (case z_NOT_SO_NOW => k_is)
    (case z_NONE_ON_ITS_WAY => k_is)
    (case z_TOO_MANY => k_is)
    (case z_HAS_ENDED => k_is)
    (case z_NODES => k_is)
    (case z_MOST_PROCESSES => k_is)
    (case z_MOST_SIGNALS => k_is)
    (case z_MOST_TURNS => k_is)
    (case z_GREATEST_WHY => k_is)
    (case z_LINKED => k_is)
    (case z_WATCHED => k_is)
    (case b_len => k_is)
    (case b_min => k_is)
    (case b_max => k_is)
    (case b_sorted => k_is)
    (case b_list => k_is)
    (case b_range => k_is)
    (case b_enumerate => k_is)
    (case aC => k_is)
    (case lC => k_is)
    (case aN => k_is)
    (case lN => k_is)
    (case aL => k_is)
    (case lL => k_is)
  case S =>
    intro K H xs a hO hwi hask hx
    cases hx with
    | cons h1 h2 =>
      cases h2
      cases h1 with
      | lst hs ha =>
        have e := L2.ints_dw a.1 _ ha
        subst e
        have q : ((Codec.inLen 0 600 a.1 && a.1.all (Codec.inInt 0 4294967295)) && true) = true := hwi
        rw [Bool.and_eq_true, Bool.and_eq_true] at q
        exact ⟨_, a.1, rfl, hs, (Codec.inNat_iff.mp q.1.1).2, hask, fun H' p hp => .lst (L2.SqL.of hp) (L2.dw_ints _)⟩
