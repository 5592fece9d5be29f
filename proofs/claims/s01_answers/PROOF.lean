import PyProof.Rows.All
import Wide.All
import OpenK.AllK
import Wide.FinOn
import PyProof.EqAt
import PyProof.EqKinds
import PyProof.TupleCall
import KE.BitLaws
import PySem.Challenge.RW_fairdoor_s01_answers
import KE.KDictSum
import PyProof.Rows.SortShellAny
import KE.OsGo
import Open.SpecLaws
set_option Elab.async false
set_option linter.all false
set_option maxRecDepth 100000
set_option maxHeartbeats 0
section
namespace Fd
open Sw55
abbrev Srt (l : List Conn) : Prop := l.Pairwise fun a b => a.number < b.number
def repl (d : Conn) (l : List Conn) : List Conn := l.map fun e => if e.number = d.number then d else e
def pick (l : List Conn) (k : Nat) : Option Conn := l.find? fun c => c.number == k
theorem pick_some {l : List Conn} {k : Nat} {c : Conn} (h : pick l k = some c) : c ∈ l ∧ c.number = k := by
  unfold pick at h
  refine ⟨List.mem_of_find?_eq_some h, ?_⟩
  have := List.find?_some h
  simpa using this
theorem pick_none {l : List Conn} {k : Nat} (h : pick l k = none) : ∀ c ∈ l, c.number ≠ k := by
  intro c hc e
  unfold pick at h
  have := List.find?_eq_none.mp h c hc
  simp [e] at this
theorem srt_inj {l : List Conn} (h : Srt l) {a b : Conn} (ha : a ∈ l) (hb : b ∈ l) (e : a.number = b.number) : a = b := by
  induction l with
  | nil => cases ha
  | cons x r ih =>
    obtain ⟨h1, h2⟩ := List.pairwise_cons.mp h
    rcases List.mem_cons.mp ha with qa | qa
    · rcases List.mem_cons.mp hb with qb | qb
      · rw [qa, qb]
      · have := h1 b qb; rw [qa] at e; omega
    · rcases List.mem_cons.mp hb with qb | qb
      · have := h1 a qa; rw [qb] at e; omega
      · exact ih h2 qa qb
theorem pick_of_mem {l : List Conn} (h : Srt l) {c : Conn} (hc : c ∈ l) : pick l c.number = some c := by
  cases e : pick l c.number with
  | none => exact absurd rfl (pick_none e c hc)
  | some d =>
    obtain ⟨hd, en⟩ := pick_some e
    rw [srt_inj h hd hc en]
theorem pick_isSome {l : List Conn} {k : Nat} : (pick l k).isSome = true ↔ ∃ c ∈ l, c.number = k := by
  constructor
  · intro h
    obtain ⟨c, hc⟩ := Option.isSome_iff_exists.mp h
    exact ⟨c, pick_some hc⟩
  · rintro ⟨c, hc, e⟩
    cases q : pick l k with
    | none => exact absurd e (pick_none q c hc)
    | some _ => rfl
theorem mem_repl {d e : Conn} {l : List Conn} : e ∈ repl d l ↔ (e ∈ l ∧ e.number ≠ d.number) ∨ (e = d ∧ ∃ c ∈ l, c.number = d.number) := by
  unfold repl
  constructor
  · intro h
    obtain ⟨c, hc, q⟩ := List.mem_map.mp h
    by_cases z : c.number = d.number
    · rw [if_pos z] at q; exact .inr ⟨q.symm, c, hc, z⟩
    · rw [if_neg z] at q; subst q; exact .inl ⟨hc, z⟩
  · rintro (⟨h, z⟩ | ⟨rfl, c, hc, z⟩)
    · exact List.mem_map.mpr ⟨e, h, if_neg z⟩
    · exact List.mem_map.mpr ⟨c, hc, if_pos z⟩
theorem repl_numbers (d : Conn) (l : List Conn) : (repl d l).map (·.number) = l.map (·.number) := by
  unfold repl
  rw [List.map_map]
  apply List.map_congr_left
  intro c hc
  by_cases z : c.number = d.number <;> simp [z]
theorem srt_numbers {l : List Conn} : Srt l ↔ (l.map (·.number)).Pairwise (· < ·) := by
  rw [List.pairwise_map]
theorem srt_repl {d : Conn} {l : List Conn} (h : Srt l) : Srt (repl d l) := by
  rw [srt_numbers, repl_numbers, ← srt_numbers]; exact h
theorem length_repl (d : Conn) (l : List Conn) : (repl d l).length = l.length := by simp [repl]
theorem sum_repl (f : Conn → Nat) {c d : Conn} (en : d.number = c.number) : ∀ {l : List Conn}, Srt l → c ∈ l → ((repl d l).map f).sum + f c = (l.map f).sum + f d
  | x :: r, h, hc => by
    obtain ⟨h1, h2⟩ := List.pairwise_cons.mp h
    have e1 : repl d (x :: r) = (if x.number = d.number then d else x) :: repl d r := rfl
    rw [e1, List.map_cons, List.map_cons, List.sum_cons, List.sum_cons]
    by_cases hx : x = c
    · subst hx
      have e2 : repl d r = r := by
        unfold repl
        conv => rhs; rw [← List.map_id r]
        apply List.map_congr_left
        intro e he
        have := h1 e he
        rw [if_neg (by omega)]; rfl
      rw [e2, if_pos en.symm]
      omega
    · have hc' : c ∈ r := by
        rcases List.mem_cons.mp hc with q | q
        · exact absurd q.symm hx
        · exact q
      have := h1 c hc'
      have ih := sum_repl f en h2 hc'
      rw [if_neg (by omega)]
      omega
theorem repl_id {c : Conn} {l : List Conn} (h : Srt l) (hc : c ∈ l) : repl c l = l := by
  unfold repl
  conv => rhs; rw [← List.map_id l]
  apply List.map_congr_left
  intro e he
  by_cases z : e.number = c.number
  · rw [if_pos z, srt_inj h hc he z.symm]; rfl
  · rw [if_neg z]; rfl
structure ConnOk (now : Nat) (c : Conn) : Prop where
  lt : c.number < 64
  w1 : 1 ≤ c.weight
  w16 : c.weight ≤ 16
  cost : ∀ q ∈ c.waiting, 1 ≤ q.cost ∧ q.cost ≤ 65535
  ids : (c.waiting.map (·.id) ++ c.working.map (·.1)).Nodup
  at_ : c.levelAt ≤ now
structure RulesOk (r : Rules) : Prop where
  most1 : 1 ≤ r.most
  most : r.most ≤ 64
  each1 : 1 ≤ r.each
  each : r.each ≤ 64
  work1 : 1 ≤ r.work
  work : r.work ≤ 1024
  wait : r.wait ≤ 64
  idle : r.idle ≤ 2 ^ 31
  limit : r.limit ≤ 2 ^ 31
  rate : r.rate ≤ 1000000
  burst1 : 1 ≤ r.burst
  burst : r.burst ≤ 1000
def held (c : Conn) : Nat := c.waiting.length + c.working.length
structure Ok0 (s : Server) : Prop where
  srt : Srt s.conns
  len : s.conns.length ≤ 64
  cok : ∀ c ∈ s.conns, ConnOk s.now c
  rnd : s.row.Nodup
  rin : ∀ k ∈ s.row, ∃ c ∈ s.conns, c.number = k
  win : ∀ c ∈ s.conns, c.waiting ≠ [] → c.number ∈ s.row
  crd : ∀ c ∈ s.conns, c.waiting = [] → c.number ∉ s.row → c.credit = 0
  rul : ∀ r, s.rules = some r → RulesOk r
  non : s.rules = none → s.conns = [] ∧ s.ends = none
  cnt : (s.conns.map held).sum ≤ s.asked
structure Ok (s : Server) : Prop extends Ok0 s where
  row : ∀ c ∈ s.conns, c.number ∈ s.row → c.waiting ≠ []
theorem conn_eq (s : Server) (k : Nat) : s.conn k = pick s.conns k := rfl
theorem with_eq (s : Server) (d : Conn) : s.with_ d = { s with conns := repl d s.conns } := rfl
def turn1 (s : Server) : Option (Server × List Want) :=
  match s.rules with
  | none => none
  | some r => if r.work ≤ s.working then none else match s.row with
    | [] => none
    | k :: row => match s.conn k with
      | none => none
      | some c => match c.waiting with
        | [] => none
        | q :: l => if c.credit < q.cost then some ({ s with row := row ++ [k] }.with_ { c with credit := c.credit + TURN * c.weight }, [])
          else some ({ s with row := if l = [] then row else k :: row }.with_ { c with credit := if l = [] then 0 else c.credit - q.cost, waiting := l, working := c.working ++ [(q.id, s.now)] }, [.start k q.id q.bytes])
theorem turns_none {s : Server} (h : Ok s) (e : turn1 s = none) (f : Nat) : turns f s = done s := by
  cases f with
  | zero => rfl
  | succ f =>
    unfold turn1 at e
    unfold turns
    split
    · rfl
    · rename_i r hr
      rw [hr] at e
      dsimp only at e ⊢
      split
      · rfl
      · rename_i hw
        rw [if_neg hw] at e
        split
        · rfl
        · rename_i k row hrow
          rw [hrow] at e
          dsimp only at e
          obtain ⟨c, hc, hk⟩ := h.rin k (by rw [hrow]; exact List.mem_cons_self)
          have hp : s.conn k = some c := by rw [conn_eq, ← hk]; exact pick_of_mem h.srt hc
          have hne := h.row c hc (by rw [hk, hrow]; exact List.mem_cons_self)
          rw [hp] at e ⊢
          dsimp only at e ⊢
          split
          · rename_i hw0; exact absurd hw0 hne
          · rename_i q l hq
            rw [hq] at e
            dsimp only at e
            split at e <;> cases e
theorem turns_some {s s1 : Server} {w : List Want} (e : turn1 s = some (s1, w)) (f : Nat) : turns (f + 1) s = ((turns f s1).1, w ++ (turns f s1).2) := by
  unfold turn1 at e
  conv => lhs; unfold turns
  split at e
  · cases e
  · rename_i r hr
    rw [hr]
    dsimp only
    split at e
    · cases e
    · rename_i hw
      rw [if_neg hw]
      split at e
      · cases e
      · rename_i k row hrow
        simp only [hrow]
        split at e
        · cases e
        · rename_i c hc
          simp only [hc]
          split at e
          · cases e
          · rename_i q l hq
            simp only [hq]
            split at e
            · rename_i hlt
              rw [if_pos hlt]
              cases e
              simp only [hq, hr, List.nil_append]
            · rename_i hlt
              rw [if_neg hlt]
              cases e
              simp only [hr, List.cons_append, List.nil_append]
def lack (c : Conn) : Nat := if c.waiting = [] then 0 else (66534 - c.credit) / 1000
def need (s : Server) : Nat := match s.rules with
  | none => 0
  | some r => 67 * (r.work - s.working) + (s.conns.map lack).sum
theorem lack_le (c : Conn) : lack c ≤ 66 := by
  unfold lack
  split
  · omega
  · omega
theorem sum_lack_le : ∀ l : List Conn, (l.map lack).sum ≤ 66 * l.length
  | [] => by simp
  | c :: r => by
    have := sum_lack_le r
    have := lack_le c
    rw [List.map_cons, List.sum_cons, List.length_cons]
    omega
theorem need_le {s : Server} (h : Ok0 s) : need s ≤ 72832 := by
  unfold need
  split
  · omega
  · rename_i r hr
    have := (h.rul r hr).work
    have := sum_lack_le s.conns
    have := h.len
    omega
end Fd
end
section
namespace Fd
open Sw55
theorem Ok0.put {s s' : Server} (h : Ok0 s) {c d : Conn} (hc : c ∈ s.conns) (en : d.number = c.number) (hd : ConnOk s.now d)
    (nd : s'.row.Nodup) (hm : ∀ k, k ≠ c.number → (k ∈ s'.row ↔ k ∈ s.row)) (h1 : d.waiting ≠ [] → c.number ∈ s'.row) (h2 : d.waiting = [] → c.number ∉ s'.row → d.credit = 0)
    (e : s'.conns = repl d s.conns) (enow : s'.now = s.now) (erul : s'.rules = s.rules) (eends : s'.ends = s.ends) (ecnt : s.asked + held d ≤ s'.asked + held c) : Ok0 s' where
  srt := by rw [e]; exact srt_repl h.srt
  len := by rw [e, length_repl]; exact h.len
  cok := by
    intro x hx
    rw [e] at hx
    rw [enow]
    rcases mem_repl.mp hx with ⟨hx, _⟩ | ⟨rfl, _⟩
    · exact h.cok x hx
    · exact hd
  rnd := nd
  rin := by
    intro k hk
    rw [e]
    by_cases q : k = c.number
    · exact ⟨d, mem_repl.mpr (.inr ⟨rfl, c, hc, en.symm⟩), by rw [en, q]⟩
    · obtain ⟨x, hx, ex⟩ := h.rin k ((hm k q).mp hk)
      exact ⟨x, mem_repl.mpr (.inl ⟨hx, by omega⟩), ex⟩
  win := by
    intro x hx hw
    rw [e] at hx
    rcases mem_repl.mp hx with ⟨hx, q⟩ | ⟨rfl, _⟩
    · exact (hm _ (by omega)).mpr (h.win x hx hw)
    · rw [en]; exact h1 hw
  crd := by
    intro x hx hw hn
    rw [e] at hx
    rcases mem_repl.mp hx with ⟨hx, q⟩ | ⟨rfl, _⟩
    · exact h.crd x hx hw fun z => hn ((hm _ (by omega)).mpr z)
    · rw [en] at hn; exact h2 hw hn
  rul := by rw [erul]; exact h.rul
  non := by
    intro z
    rw [erul] at z
    have := (h.non z).1
    rw [this] at hc
    cases hc
  cnt := by
    have := sum_repl held en h.srt hc
    have := h.cnt
    rw [e]
    omega
theorem Ok.put {s s' : Server} (h : Ok s) {c d : Conn} (hc : c ∈ s.conns) (en : d.number = c.number) (hd : ConnOk s.now d)
    (nd : s'.row.Nodup) (hm : ∀ k, k ≠ c.number → (k ∈ s'.row ↔ k ∈ s.row)) (h1 : d.waiting ≠ [] ↔ c.number ∈ s'.row) (h2 : d.waiting = [] → d.credit = 0)
    (e : s'.conns = repl d s.conns) (enow : s'.now = s.now) (erul : s'.rules = s.rules) (eends : s'.ends = s.ends) (ecnt : s.asked + held d ≤ s'.asked + held c) : Ok s' :=
  { h.toOk0.put hc en hd nd hm h1.mp (fun z _ => h2 z) e enow erul eends ecnt with
    row := by
      intro x hx hr
      rw [e] at hx
      rcases mem_repl.mp hx with ⟨hx, q⟩ | ⟨rfl, _⟩
      · exact h.row x hx ((hm _ (by omega)).mp hr)
      · rw [en] at hr; exact h1.mpr hr }
inductive Turn (s : Server) : Server → List Want → Prop
  | more {r : Rules} {k : Nat} {row : List Nat} {c : Conn} {q : Req} {l : List Req} (hr : s.rules = some r) (hw : s.working < r.work) (hrow : s.row = k :: row) (hc : c ∈ s.conns) (hk : c.number = k) (hq : c.waiting = q :: l) (hlt : c.credit < q.cost) :
    Turn s ({ s with row := row ++ [k] }.with_ { c with credit := c.credit + 1000 * c.weight }) []
  | starts {r : Rules} {k : Nat} {row : List Nat} {c : Conn} {q : Req} {l : List Req} (hr : s.rules = some r) (hw : s.working < r.work) (hrow : s.row = k :: row) (hc : c ∈ s.conns) (hk : c.number = k) (hq : c.waiting = q :: l) (hge : q.cost ≤ c.credit) :
    Turn s ({ s with row := if l = [] then row else k :: row }.with_ { c with credit := if l = [] then 0 else c.credit - q.cost, waiting := l, working := c.working ++ [(q.id, s.now)] }) [.start k q.id q.bytes]
theorem turn_of {s s1 : Server} {w : List Want} (e : turn1 s = some (s1, w)) : Turn s s1 w := by
  unfold turn1 at e
  split at e
  · cases e
  · rename_i r hr
    split at e
    · cases e
    · rename_i hw
      split at e
      · cases e
      · rename_i k row hrow
        split at e
        · cases e
        · rename_i c hc
          obtain ⟨h1, h2⟩ := pick_some hc
          split at e
          · cases e
          · rename_i q l hq
            split at e
            · rename_i hlt
              cases e
              exact .more hr (by omega) hrow h1 h2 hq hlt
            · rename_i hlt
              cases e
              exact .starts hr (by omega) hrow h1 h2 hq (by omega)
theorem turn_to {s s1 : Server} {w : List Want} (h : Srt s.conns) (t : Turn s s1 w) : turn1 s = some (s1, w) := by
  cases t with
  | more hr hw hrow hc hk hq hlt =>
    unfold turn1
    simp only [hr, if_neg (Nat.not_le.mpr hw), hrow, conn_eq]
    rw [← hk, pick_of_mem h hc]
    simp only [hq, if_pos hlt]
    rfl
  | starts hr hw hrow hc hk hq hlt =>
    unfold turn1
    simp only [hr, if_neg (Nat.not_le.mpr hw), hrow, conn_eq]
    rw [← hk, pick_of_mem h hc]
    simp only [hq, if_neg (Nat.not_lt.mpr hlt)]
theorem nodup_snoc {l : List Nat} {k : Nat} : (l ++ [k]).Nodup ↔ (k :: l).Nodup := by
  constructor
  · intro h
    obtain ⟨h1, _, h2⟩ := List.nodup_append.mp h
    exact List.nodup_cons.mpr ⟨fun z => h2 k z k List.mem_cons_self rfl, h1⟩
  · intro h
    obtain ⟨h1, h2⟩ := List.nodup_cons.mp h
    refine List.nodup_append.mpr ⟨h2, by simp, ?_⟩
    intro a ha b hb e
    simp at hb
    subst hb; subst e
    exact h1 ha
theorem Turn.ok {s s1 : Server} {w : List Want} (h : Ok s) (t : Turn s s1 w) : Ok s1 ∧ need s1 < need s := by
  cases t with
  | @more r k row c q l hr hw hrow hc hk hq hlt =>
    have co := h.cok c hc
    have nd := h.rnd
    rw [hrow] at nd
    refine ⟨h.put (d := { c with credit := c.credit + 1000 * c.weight }) hc rfl ⟨co.lt, co.w1, co.w16, co.cost, co.ids, co.at_⟩ (nodup_snoc.mpr nd) ?_ ?_ ?_ rfl rfl rfl rfl (Nat.le_refl _), ?_⟩
    · intro j hj
      rw [hrow]
      show j ∈ row ++ [k] ↔ _
      simp [or_comm]
    · show c.waiting ≠ [] ↔ c.number ∈ row ++ [k]
      rw [hq, hk]
      simp
    · intro z
      have z' : c.waiting = [] := z
      rw [hq] at z'; cases z'
    · have e1 := sum_repl lack (c := c) (d := { c with credit := c.credit + 1000 * c.weight }) rfl h.srt hc
      have e2 := sum_repl (fun x => x.working.length) (c := c) (d := { c with credit := c.credit + 1000 * c.weight }) rfl h.srt hc
      have ew : s.working = (s.conns.map fun x => x.working.length).sum := rfl
      have hcost := (co.cost q (by rw [hq]; exact List.mem_cons_self)).2
      have := co.w1
      have l1 : lack c = (66534 - c.credit) / 1000 := by unfold lack; rw [if_neg (by rw [hq]; simp)]
      have l2 : lack { c with credit := c.credit + 1000 * c.weight } = (66534 - (c.credit + 1000 * c.weight)) / 1000 := by unfold lack; rw [if_neg (by show ¬ c.waiting = []; rw [hq]; simp)]
      unfold need
      rw [with_eq]
      simp only [hr]
      show 67 * (r.work - ((repl { c with credit := c.credit + 1000 * c.weight } s.conns).map fun x => x.working.length).sum) + ((repl { c with credit := c.credit + 1000 * c.weight } s.conns).map lack).sum < 67 * (r.work - (s.conns.map fun x => x.working.length).sum) + (s.conns.map lack).sum
      have e3 : ({ c with credit := c.credit + 1000 * c.weight } : Conn).working.length = c.working.length := rfl
      simp only [e3] at e2
      have e4 : (66534 - (c.credit + 1000 * c.weight)) / 1000 + 1 ≤ (66534 - c.credit) / 1000 := by omega
      rw [l1, l2] at e1
      have e5 : ((repl { c with credit := c.credit + 1000 * c.weight } s.conns).map fun x => x.working.length).sum = (s.conns.map fun x => x.working.length).sum := by omega
      rw [e5]
      omega
  | @starts r k row c q l hr hw hrow hc hk hq hge =>
    have co := h.cok c hc
    have nd := h.rnd
    rw [hrow] at nd
    obtain ⟨nd1, nd2⟩ := List.nodup_cons.mp nd
    have hids := co.ids
    rw [hq] at hids
    refine ⟨h.put (d := { c with credit := if l = [] then 0 else c.credit - q.cost, waiting := l, working := c.working ++ [(q.id, s.now)] }) hc rfl ⟨co.lt, co.w1, co.w16, ?_, ?_, co.at_⟩ ?_ ?_ ?_ ?_ rfl rfl rfl rfl ?_, ?_⟩
    · intro x hx
      exact co.cost x (by rw [hq]; exact List.mem_cons_of_mem _ hx)
    · show (l.map (·.id) ++ (c.working ++ [(q.id, s.now)]).map (·.1)).Nodup
      rw [List.map_append, ← List.append_assoc]
      have := nodup_snoc (l := l.map (·.id) ++ c.working.map (·.1)) (k := q.id)
      exact this.mpr (by simpa using hids)
    · show (if l = [] then row else k :: row).Nodup
      split
      · exact nd2
      · exact nd
    · intro j hj
      show j ∈ (if l = [] then row else k :: row) ↔ _
      rw [hrow]
      split
      · constructor
        · exact List.mem_cons_of_mem _
        · intro z
          rcases List.mem_cons.mp z with z | z
          · rw [hk] at hj; exact absurd z hj
          · exact z
      · exact Iff.rfl
    · show l ≠ [] ↔ c.number ∈ (if l = [] then row else k :: row)
      rw [hk]
      split
      · rename_i z
        exact ⟨fun q => absurd z q, fun q => absurd q nd1⟩
      · rename_i z
        exact ⟨fun _ => List.mem_cons_self, fun _ => z⟩
    · intro z
      show (if l = [] then 0 else c.credit - q.cost) = 0
      rw [if_pos z]
    · show s.asked + (l.length + (c.working ++ [(q.id, s.now)]).length) ≤ s.asked + (c.waiting.length + c.working.length)
      rw [hq]
      simp
      omega
    · have e1 := sum_repl lack (c := c) (d := { c with credit := if l = [] then 0 else c.credit - q.cost, waiting := l, working := c.working ++ [(q.id, s.now)] }) rfl h.srt hc
      have e2 := sum_repl (fun x => x.working.length) (c := c) (d := { c with credit := if l = [] then 0 else c.credit - q.cost, waiting := l, working := c.working ++ [(q.id, s.now)] }) rfl h.srt hc
      have hl := lack_le { c with credit := if l = [] then 0 else c.credit - q.cost, waiting := l, working := c.working ++ [(q.id, s.now)] }
      have e3 : ({ c with credit := if l = [] then 0 else c.credit - q.cost, waiting := l, working := c.working ++ [(q.id, s.now)] } : Conn).working.length = c.working.length + 1 := by simp
      have hw' : (s.conns.map fun x => x.working.length).sum < r.work := hw
      simp only [e3] at e2
      unfold need
      rw [with_eq]
      simp only [hr]
      show 67 * (r.work - ((repl _ s.conns).map fun x => x.working.length).sum) + ((repl _ s.conns).map lack).sum < 67 * (r.work - (s.conns.map fun x => x.working.length).sum) + (s.conns.map lack).sum
      omega
theorem fuel {f : Nat} : ∀ {s : Server}, Ok s → need s ≤ f → turns f s = turns FUEL s := by
  have key : ∀ (n : Nat) (s : Server), Ok s → need s ≤ n → ∀ f g, need s ≤ f → need s ≤ g → turns f s = turns g s := by
    intro n
    induction n with
    | zero =>
      intro s h hn f g hf hg
      cases e : turn1 s with
      | none => rw [turns_none h e, turns_none h e]
      | some x =>
        obtain ⟨s1, w⟩ := x
        have := ((turn_of e).ok h).2
        omega
    | succ n ih =>
      intro s h hn f g hf hg
      cases e : turn1 s with
      | none => rw [turns_none h e, turns_none h e]
      | some x =>
        obtain ⟨s1, w⟩ := x
        obtain ⟨h1, h2⟩ := (turn_of e).ok h
        obtain ⟨f', rfl⟩ : ∃ f', f = f' + 1 := ⟨f - 1, by omega⟩
        obtain ⟨g', rfl⟩ : ∃ g', g = g' + 1 := ⟨g - 1, by omega⟩
        rw [turns_some e, turns_some e, ih s1 h1 (by omega) f' g' (by omega) (by omega)]
  intro s h hf
  refine key _ s h hf f FUEL hf ?_
  have := need_le h.toOk0
  unfold FUEL
  omega
def allTurns (s : Server) : Does := turns FUEL s
theorem allTurns_none {s : Server} (h : Ok s) (e : turn1 s = none) : allTurns s = (s, []) := turns_none h e FUEL
theorem allTurns_some {s s1 : Server} {w : List Want} (h : Ok s) (t : Turn s s1 w) : allTurns s = ((allTurns s1).1, w ++ (allTurns s1).2) := by
  have e := turn_to h.srt t
  obtain ⟨h1, h2⟩ := t.ok h
  show turns FUEL s = _
  rw [← fuel (f := FUEL) h (by have := need_le h.toOk0; unfold FUEL; omega)]
  have : turns FUEL s = turns (99999 + 1) s := rfl
  rw [this, turns_some e, fuel h1 (by have := need_le h1.toOk0; omega)]
  rfl
theorem allTurns_ind {P : Server → Prop} (step : ∀ s s1 w, Ok s → P s → Turn s s1 w → P s1) : ∀ {s : Server}, Ok s → P s → Ok (allTurns s).1 ∧ P (allTurns s).1 ∧ turn1 (allTurns s).1 = none := by
  have key : ∀ (n : Nat) (s : Server), need s ≤ n → Ok s → P s → Ok (allTurns s).1 ∧ P (allTurns s).1 ∧ turn1 (allTurns s).1 = none := by
    intro n
    induction n with
    | zero =>
      intro s hn h hp
      cases e : turn1 s with
      | none => rw [allTurns_none h e]; exact ⟨h, hp, e⟩
      | some x =>
        obtain ⟨s1, w⟩ := x
        have := ((turn_of e).ok h).2
        omega
    | succ n ih =>
      intro s hn h hp
      cases e : turn1 s with
      | none => rw [allTurns_none h e]; exact ⟨h, hp, e⟩
      | some x =>
        obtain ⟨s1, w⟩ := x
        obtain ⟨h1, h2⟩ := (turn_of e).ok h
        rw [allTurns_some h (turn_of e)]
        exact ih s1 (by omega) h1 (step s s1 w h hp (turn_of e))
  intro s h hp
  exact key _ s (Nat.le_refl _) h hp
end Fd
end
section
namespace Fd
open Sw55
def isLate (r : Rules) (now since : Nat) : Bool := decide (0 < r.limit) && decide (since + r.limit ≤ now)
theorem isLate_zero {r : Rules} (h : r.limit = 0) (now since : Nat) : isLate r now since = false := by
  unfold isLate; simp [h]
def late (r : Rules) (now : Nat) (c : Conn) : Conn := (lateOf r now c).1
def lateW (r : Rules) (now : Nat) (c : Conn) : List Want := (lateOf r now c).2
theorem late_def (r : Rules) (now : Nat) (c : Conn) : late r now c = { c with working := c.working.filter fun w => !isLate r now w.2, waiting := c.waiting.filter fun q => !isLate r now q.since, heard := if (c.working.any fun w => isLate r now w.2) || (c.waiting.any fun q => isLate r now q.since) then now else c.heard } := rfl
theorem lateW_def (r : Rules) (now : Nat) (c : Conn) : lateW r now c = ((c.working.filter fun w => isLate r now w.2).flatMap fun w => [.cancel c.number w.1, .tell c.number w.1 4]) ++ (c.waiting.filter fun q => isLate r now q.since).map fun q => .tell c.number q.id 4 := rfl
def isTell : Want → Bool
  | .tell _ _ _ => true
  | _ => false
theorem lateAll_def (r : Rules) (s : Server) : lateAll r s = ({ s with conns := s.conns.map (late r s.now), refused := s.refused + (s.conns.map fun c => ((lateW r s.now c).filter isTell).length).sum }, s.conns.flatMap (lateW r s.now)) := by
  unfold lateAll
  simp only [List.map_map, List.flatMap_map]
  rfl
theorem late_zero {r : Rules} (h : r.limit = 0) (now : Nat) (c : Conn) : late r now c = c ∧ lateW r now c = [] := by
  rw [late_def, lateW_def]
  have e1 : (c.waiting.filter fun _ => true) = c.waiting := List.filter_eq_self.mpr fun _ _ => rfl
  have e2 : (c.working.filter fun _ => true) = c.working := List.filter_eq_self.mpr fun _ _ => rfl
  simp [isLate_zero h, e1, e2]
theorem lateAll_zero {r : Rules} (h : r.limit = 0) (s : Server) : lateAll r s = (s, []) := by
  rw [lateAll_def]
  have e1 : s.conns.map (late r s.now) = s.conns := by
    conv => rhs; rw [← List.map_id s.conns]
    exact List.map_congr_left fun c _ => (late_zero h s.now c).1
  have e2 : s.conns.flatMap (lateW r s.now) = [] := by
    rw [List.flatMap_eq_nil_iff]
    exact fun c _ => (late_zero h s.now c).2
  have e3 : (s.conns.map fun c => ((lateW r s.now c).filter isTell).length) = s.conns.map fun _ => 0 :=
    List.map_congr_left fun c _ => by rw [(late_zero h s.now c).2]; rfl
  have e4 : (s.conns.map fun _ => 0).sum = 0 := by
    induction s.conns with
    | nil => rfl
    | cons a l ih => simpa using ih
  rw [e1, e2, e3, e4]
  rfl
theorem late_number (r : Rules) (now : Nat) (c : Conn) : (late r now c).number = c.number := rfl
theorem late_ok {r : Rules} {now : Nat} {c : Conn} (h : ConnOk now c) : ConnOk now (late r now c) where
  lt := h.lt
  w1 := h.w1
  w16 := h.w16
  cost := fun q hq => h.cost q (List.mem_filter.mp hq).1
  ids := by
    rw [late_def]
    refine List.Nodup.sublist ?_ h.ids
    exact List.Sublist.append (List.Sublist.map _ List.filter_sublist) (List.Sublist.map _ List.filter_sublist)
  at_ := h.at_
theorem late_held (r : Rules) (now : Nat) (c : Conn) : held (late r now c) ≤ held c := by
  unfold held
  rw [late_def]
  have := List.length_filter_le (fun w : Nat × Nat => !isLate r now w.2) c.working
  have := List.length_filter_le (fun q : Req => !isLate r now q.since) c.waiting
  dsimp only
  omega
theorem sum_le_of {f g : Conn → Nat} : ∀ {l : List Conn}, (∀ c ∈ l, f c ≤ g c) → (l.map f).sum ≤ (l.map g).sum
  | [], _ => Nat.le_refl _
  | c :: r, h => by
    have := h c List.mem_cons_self
    have := sum_le_of (l := r) fun x hx => h x (List.mem_cons_of_mem _ hx)
    rw [List.map_cons, List.map_cons, List.sum_cons, List.sum_cons]
    omega
theorem Ok0.mapped {s s' : Server} (h : Ok s) (f : Conn → Conn) (hn : ∀ c, (f c).number = c.number) (hok : ∀ c, ConnOk s.now c → ConnOk s.now (f c)) (hw : ∀ c, c.waiting = [] → (f c).waiting = []) (hc : ∀ c, (f c).credit = c.credit) (hh : ∀ c, held (f c) ≤ held c)
    (e : s'.conns = s.conns.map f) (er : s'.row = s.row) (enow : s'.now = s.now) (erul : s'.rules = s.rules) (eends : s'.ends = s.ends) (ea : s'.asked = s.asked) : Ok0 s' where
  srt := by
    rw [e, srt_numbers, List.map_map]
    have : ((fun x => x.number) ∘ f) = fun c : Conn => c.number := funext hn
    rw [this, ← srt_numbers]; exact h.srt
  len := by rw [e, List.length_map]; exact h.len
  cok := by
    intro x hx
    rw [e] at hx
    obtain ⟨c, hc, rfl⟩ := List.mem_map.mp hx
    rw [enow]
    exact hok c (h.cok c hc)
  rnd := by rw [er]; exact h.rnd
  rin := by
    intro k hk
    rw [er] at hk
    obtain ⟨c, hc, ek⟩ := h.rin k hk
    exact ⟨f c, by rw [e]; exact List.mem_map_of_mem hc, by rw [hn]; exact ek⟩
  win := by
    intro x hx hne
    rw [e] at hx
    obtain ⟨c, hc, rfl⟩ := List.mem_map.mp hx
    rw [er, hn]
    exact h.win c hc fun z => hne (hw c z)
  crd := by
    intro x hx hne hnr
    rw [e] at hx
    obtain ⟨c, hcm, rfl⟩ := List.mem_map.mp hx
    rw [er, hn] at hnr
    rw [hc]
    refine h.crd c hcm ?_ hnr
    cases z : c.waiting with
    | nil => rfl
    | cons a b => exact absurd (h.win c hcm (by rw [z]; simp)) hnr
  rul := by rw [erul]; exact h.rul
  non := by
    intro z
    rw [erul] at z
    obtain ⟨z1, z2⟩ := h.non z
    rw [e, z1, eends]
    exact ⟨rfl, z2⟩
  cnt := by
    rw [e, ea, List.map_map]
    exact Nat.le_trans (sum_le_of (f := held ∘ f) (g := held) fun c _ => hh c) h.cnt
theorem lateAll_ok {r : Rules} {s : Server} (h : Ok s) : Ok0 (lateAll r s).1 := by
  rw [lateAll_def]
  exact Ok0.mapped h (late r s.now) (late_number r s.now) (fun c => late_ok) (fun c z => by rw [late_def]; simp [z]) (fun c => rfl) (late_held r s.now) rfl rfl rfl rfl rfl rfl
theorem without_eq (s : Server) (k : Nat) : s.without k = { s with conns := s.conns.filter fun d => d.number != k, row := s.row.filter fun j => j != k } := rfl
theorem sum_filter_le (f : Conn → Nat) (p : Conn → Bool) : ∀ l : List Conn, ((l.filter p).map f).sum ≤ (l.map f).sum
  | [] => Nat.le_refl _
  | c :: r => by
    have := sum_filter_le f p r
    rw [List.filter_cons]
    split
    · rw [List.map_cons, List.map_cons, List.sum_cons, List.sum_cons]; omega
    · rw [List.map_cons, List.sum_cons]; omega
theorem Ok0.without {s : Server} (h : Ok0 s) (k : Nat) : Ok0 (s.without k) where
  srt := List.Pairwise.sublist List.filter_sublist h.srt
  len := Nat.le_trans (List.length_filter_le _ _) h.len
  cok := fun c hc => h.cok c (List.mem_filter.mp hc).1
  rnd := List.Nodup.sublist List.filter_sublist h.rnd
  rin := by
    intro j hj
    obtain ⟨h1, h2⟩ := List.mem_filter.mp hj
    obtain ⟨c, hc, e⟩ := h.rin j h1
    exact ⟨c, List.mem_filter.mpr ⟨hc, by rw [e]; exact h2⟩, e⟩
  win := by
    intro c hc hw
    obtain ⟨h1, h2⟩ := List.mem_filter.mp hc
    exact List.mem_filter.mpr ⟨h.win c h1 hw, h2⟩
  crd := by
    intro c hc hw hn
    obtain ⟨h1, h2⟩ := List.mem_filter.mp hc
    exact h.crd c h1 hw fun z => hn (List.mem_filter.mpr ⟨z, h2⟩)
  rul := h.rul
  non := by
    intro z
    obtain ⟨z1, z2⟩ := h.non z
    refine ⟨?_, z2⟩
    show s.conns.filter _ = []
    rw [z1]; rfl
  cnt := Nat.le_trans (sum_filter_le held _ s.conns) h.cnt
theorem fold_without (s : Server) : ∀ l : List Conn, l.foldl (fun t c => t.without c.number) s = { s with conns := s.conns.filter fun d => !(l.any fun c => c.number == d.number), row := s.row.filter fun j => !(l.any fun c => c.number == j) }
  | [] => by
    have e1 : (s.conns.filter fun _ => true) = s.conns := List.filter_eq_self.mpr fun _ _ => rfl
    have e2 : (s.row.filter fun _ => true) = s.row := List.filter_eq_self.mpr fun _ _ => rfl
    simp [e1, e2]
  | c :: r => by
    rw [List.foldl_cons, fold_without (s.without c.number) r, without_eq]
    simp only [List.filter_filter, List.any_cons, Bool.not_or]
    congr 1
    · apply List.filter_congr
      intro d _
      rw [Bool.and_comm]
      congr 1
      by_cases z : d.number = c.number
      · simp [z]
      · have z' : ¬ c.number = d.number := fun q => z q.symm
        rw [beq_eq_false_iff_ne.mpr z', bne, beq_eq_false_iff_ne.mpr z]
    · apply List.filter_congr
      intro d _
      rw [Bool.and_comm]
      congr 1
      by_cases z : d = c.number
      · simp [z]
      · have z' : ¬ c.number = d := fun q => z q.symm
        rw [beq_eq_false_iff_ne.mpr z', bne, beq_eq_false_iff_ne.mpr z]
theorem Ok0.leave {s : Server} (h : Ok0 s) (why : Nat) : ∀ l : List Conn, Ok0 (Sw55.leave s why l).1 := by
  intro l
  unfold Sw55.leave
  induction l generalizing s with
  | nil => exact h
  | cons c r ih => exact ih (h.without c.number)
theorem leave_filter {s : Server} (h : Srt s.conns) (why : Nat) (p : Conn → Bool) : (Sw55.leave s why (s.conns.filter p)).1.conns = s.conns.filter fun c => !p c := by
  unfold Sw55.leave
  rw [fold_without]
  show s.conns.filter _ = _
  apply List.filter_congr
  intro d hd
  congr 1
  cases e : p d with
  | true => exact List.any_eq_true.mpr ⟨d, List.mem_filter.mpr ⟨hd, e⟩, by simp⟩
  | false =>
    rw [Bool.eq_false_iff]
    intro z
    obtain ⟨c, hc, en⟩ := List.any_eq_true.mp z
    obtain ⟨h1, h2⟩ := List.mem_filter.mp hc
    have := srt_inj h h1 hd (by simpa using en)
    subst this
    rw [e] at h2; cases h2
theorem leave_nil (s : Server) (why : Nat) : Sw55.leave s why [] = (s, []) := rfl
theorem leave_rest (s : Server) (why : Nat) (l : List Conn) : (Sw55.leave s why l).1.now = s.now ∧ (Sw55.leave s why l).1.rules = s.rules ∧ (Sw55.leave s why l).1.ends = s.ends ∧ (Sw55.leave s why l).1.asked = s.asked ∧ (Sw55.leave s why l).1.answered = s.answered ∧ (Sw55.leave s why l).1.refused = s.refused := by
  unfold Sw55.leave
  rw [fold_without]
  exact ⟨rfl, rfl, rfl, rfl, rfl, rfl⟩
theorem tidy_def (s : Server) : tidy s = { s with conns := s.conns.map fun c => if c.waiting = [] then { c with credit := 0 } else c, row := s.row.filter fun k => s.conns.any fun c => c.number == k && !c.waiting.isEmpty } := rfl
theorem Ok0.tidy {s : Server} (h : Ok0 s) : Ok (tidy s) := by
  have fn : ∀ c : Conn, (if c.waiting = [] then { c with credit := 0 } else c).number = c.number := by intro c; split <;> rfl
  have fw : ∀ c : Conn, (if c.waiting = [] then { c with credit := 0 } else c).waiting = c.waiting := by intro c; split <;> rfl
  have fk : ∀ c : Conn, (if c.waiting = [] then { c with credit := 0 } else c).working = c.working := by intro c; split <;> rfl
  have rin : ∀ k, k ∈ (Sw55.tidy s).row ↔ ∃ c ∈ s.conns, c.number = k ∧ c.waiting ≠ [] := by
    intro k
    rw [tidy_def]
    simp only [List.mem_filter, List.any_eq_true, Bool.and_eq_true, beq_iff_eq, Bool.not_eq_true', List.isEmpty_eq_false_iff]
    constructor
    · rintro ⟨_, c, h1, h2, h3⟩
      exact ⟨c, h1, h2, h3⟩
    · rintro ⟨c, h1, h2, h3⟩
      exact ⟨by rw [← h2]; exact h.win c h1 h3, c, h1, h2, h3⟩
  refine { srt := ?_, len := ?_, cok := ?_, rnd := ?_, rin := ?_, win := ?_, crd := ?_, rul := h.rul, non := ?_, cnt := ?_, row := ?_ }
  · show Srt (s.conns.map _)
    rw [srt_numbers, List.map_map]
    have : ((fun x => x.number) ∘ fun c : Conn => if c.waiting = [] then { c with credit := 0 } else c) = fun c : Conn => c.number := funext fn
    rw [this, ← srt_numbers]; exact h.srt
  · show (s.conns.map _).length ≤ 64
    rw [List.length_map]; exact h.len
  · intro x hx
    obtain ⟨c, hc, rfl⟩ := List.mem_map.mp hx
    have co := h.cok c hc
    split
    · exact ⟨co.lt, co.w1, co.w16, co.cost, co.ids, co.at_⟩
    · exact co
  · exact List.Nodup.sublist List.filter_sublist h.rnd
  · intro k hk
    obtain ⟨c, h1, h2, h3⟩ := (rin k).mp hk
    exact ⟨_, List.mem_map_of_mem h1, by rw [fn]; exact h2⟩
  · intro x hx hw
    obtain ⟨c, hc, rfl⟩ := List.mem_map.mp hx
    rw [fw] at hw
    rw [fn]
    exact (rin _).mpr ⟨c, hc, rfl, hw⟩
  · intro x hx hw _
    obtain ⟨c, hc, rfl⟩ := List.mem_map.mp hx
    rw [fw] at hw
    rw [if_pos hw]
  · intro z
    obtain ⟨z1, z2⟩ := h.non z
    refine ⟨?_, z2⟩
    show s.conns.map _ = []
    rw [z1]; rfl
  · show ((s.conns.map _).map held).sum ≤ s.asked
    rw [List.map_map]
    refine Nat.le_trans (sum_le_of (g := held) fun c _ => ?_) h.cnt
    show held (if c.waiting = [] then { c with credit := 0 } else c) ≤ held c
    unfold held
    rw [fw, fk]
    exact Nat.le_refl _
  · intro x hx hr
    obtain ⟨c, hc, rfl⟩ := List.mem_map.mp hx
    rw [fn] at hr
    rw [fw]
    obtain ⟨d, h1, h2, h3⟩ := (rin _).mp hr
    rw [srt_inj h.srt hc h1 h2.symm]
    exact h3
theorem tidy_id {s : Server} (h : Ok s) : tidy s = s := by
  rw [tidy_def]
  have e1 : (s.conns.map fun c => if c.waiting = [] then { c with credit := 0 } else c) = s.conns := by
    conv => rhs; rw [← List.map_id s.conns]
    apply List.map_congr_left
    intro c hc
    split
    · rename_i z
      have := h.crd c hc z fun q => h.row c hc q z
      show _ = c
      rw [← this]
    · rfl
  have e2 : (s.row.filter fun k => s.conns.any fun c => c.number == k && !c.waiting.isEmpty) = s.row := by
    rw [List.filter_eq_self]
    intro k hk
    obtain ⟨c, hc, e⟩ := h.rin k hk
    rw [List.any_eq_true]
    refine ⟨c, hc, ?_⟩
    have := h.row c hc (by rw [e]; exact hk)
    simp [e, this]
  rw [e1, e2]
def NoQuiet (s : Server) : Prop := ∀ c ∈ s.conns, c.quiet = false
structure Settled (s : Server) : Prop where
  one : turn1 s = none
  noq : s.ends.isSome = true → NoQuiet s
theorem settle_noop {s : Server} (h : Ok s) (z : Settled s) : settle s = (s, []) := by
  unfold settle
  split
  · rfl
  · have e0 : (if s.ends.isSome = true then Sw55.leave s 2 (s.conns.filter Conn.quiet) else done s) = (s, []) := by
      split
      · rename_i q
        have : s.conns.filter Conn.quiet = [] := by
          rw [List.filter_eq_nil_iff]
          intro c hc
          rw [z.noq q c hc]
          exact Bool.false_ne_true
        rw [this]; rfl
      · rfl
    rw [e0]
    unfold Does.then_
    simp only [tidy_id h, turns_none h z.one, List.nil_append]
    rfl
theorem quiet_iff (c : Conn) : c.quiet = true ↔ c.waiting = [] ∧ c.working = [] := by
  unfold Conn.quiet
  simp
theorem noq_tidy {s : Server} (h : NoQuiet s) : NoQuiet (tidy s) := by
  intro x hx
  obtain ⟨c, hc, rfl⟩ := List.mem_map.mp hx
  have := h c hc
  split
  · exact this
  · exact this
theorem Turn.rest {s s1 : Server} {w : List Want} (t : Turn s s1 w) : s1.now = s.now ∧ s1.rules = s.rules ∧ s1.ends = s.ends ∧ s1.asked = s.asked ∧ s1.answered = s.answered ∧ s1.refused = s.refused := by
  cases t <;> exact ⟨rfl, rfl, rfl, rfl, rfl, rfl⟩
theorem Turn.noq {s s1 : Server} {w : List Want} (h : NoQuiet s) (t : Turn s s1 w) : NoQuiet s1 := by
  cases t with
  | @more r k row c q l hr hw hrow hc hk hq hlt =>
    intro x hx
    rcases mem_repl.mp hx with ⟨hx, _⟩ | ⟨rfl, _⟩
    · exact h x hx
    · exact h c hc
  | @starts r k row c q l hr hw hrow hc hk hq hge =>
    intro x hx
    rcases mem_repl.mp hx with ⟨hx, _⟩ | ⟨rfl, _⟩
    · exact h x hx
    · rw [Bool.eq_false_iff]
      intro z
      have := ((quiet_iff _).mp z).2
      simp at this
theorem behind {s : Server} (h : Ok0 s) (hq : s.ends.isSome = true → NoQuiet s) : Ok (allTurns (tidy s)).1 ∧ Settled (allTurns (tidy s)).1 ∧ (allTurns (tidy s)).1.now = s.now ∧ (allTurns (tidy s)).1.rules = s.rules ∧ (allTurns (tidy s)).1.ends = s.ends ∧ (allTurns (tidy s)).1.asked = s.asked ∧ (allTurns (tidy s)).1.answered = s.answered ∧ (allTurns (tidy s)).1.refused = s.refused := by
  have k := allTurns_ind (P := fun t => (s.ends.isSome = true → NoQuiet t) ∧ t.now = s.now ∧ t.rules = s.rules ∧ t.ends = s.ends ∧ t.asked = s.asked ∧ t.answered = s.answered ∧ t.refused = s.refused)
    (fun a b w _ ha t => by
      obtain ⟨a1, a2, a3, a4, a5, a6, a7⟩ := ha
      obtain ⟨b2, b3, b4, b5, b6, b7⟩ := t.rest
      exact ⟨fun z => t.noq (a1 z), b2.trans a2, b3.trans a3, b4.trans a4, b5.trans a5, b6.trans a6, b7.trans a7⟩) h.tidy ⟨fun z => noq_tidy (hq z), rfl, rfl, rfl, rfl, rfl, rfl⟩
  obtain ⟨k1, ⟨k2, k3, k4, k5, k6, k7, k8⟩, k9⟩ := k
  exact ⟨k1, ⟨k9, fun z => k2 (by rw [← k5]; exact z)⟩, k3, k4, k5, k6, k7, k8⟩
end Fd
end
section
namespace Fd
open Sw55
def idleOut (r : Rules) (s : Server) : Does := Sw55.leave s 1 (s.conns.filter (s.idle r))
def quietOut (s : Server) : Does := if s.ends.isSome = true then Sw55.leave s 2 (s.conns.filter Conn.quiet) else (s, [])
def cancels (l : List Conn) : List Want := l.flatMap fun c => c.working.map fun w => .cancel c.number w.1
def graceOut (s : Server) : Does := match s.ends with
  | none => (s, [])
  | some e => if e ≤ s.now then ((Sw55.leave s 3 s.conns).1, cancels s.conns ++ (Sw55.leave s 3 s.conns).2) else (s, [])
def after (s : Server) : Does := allTurns (tidy s)
theorem then_assoc (x : Does) (f g : Server → Does) : (x.then_ f).then_ g = x.then_ fun s => (f s).then_ g := by
  unfold Does.then_; simp [List.append_assoc]
theorem then_pair (s : Server) (w : List Want) (f : Server → Does) : Does.then_ (s, w) f = ((f s).1, w ++ (f s).2) := rfl
theorem then_fst (x : Does) (f : Server → Does) : (x.then_ f).1 = (f x.1).1 := rfl
theorem then_snd (x : Does) (f : Server → Does) : (x.then_ f).2 = x.2 ++ (f x.1).2 := rfl
theorem then_congr (x : Does) {f g : Server → Does} (h : f x.1 = g x.1) : x.then_ f = x.then_ g := by
  unfold Does.then_; rw [h]
theorem leaves_eq (r : Rules) (s : Server) : leaves r s = (idleOut r s).then_ fun t => (quietOut t).then_ graceOut := by
  unfold leaves idleOut
  apply then_congr
  generalize (Sw55.leave s 1 (s.conns.filter (s.idle r))).1 = t
  unfold quietOut
  cases e : t.ends with
  | none =>
    simp only [Option.isSome_none, Bool.false_eq_true, if_false]
    rw [then_pair]
    unfold graceOut
    rw [e]
    rfl
  | some z =>
    simp only [Option.isSome_some, if_true]
    apply then_congr
    unfold graceOut
    rw [(leave_rest t 2 (t.conns.filter Conn.quiet)).2.2.1, e]
    rfl
theorem settle_eq {s : Server} {r : Rules} (h : s.rules = some r) : settle s = (quietOut s).then_ after := by
  unfold settle
  rw [h]
  rfl
theorem passes_eq {s : Server} {r : Rules} (h : s.rules = some r) (t : Nat) : passes s t = (lateAll r { s with now := max s.now t }).then_ fun a => (idleOut r a).then_ fun b => (quietOut b).then_ fun c => (graceOut c).then_ after := by
  unfold passes
  simp only [h]
  rw [then_assoc]
  apply then_congr
  rw [leaves_eq, then_assoc]
  apply then_congr
  rw [then_assoc]
  rfl
theorem passes_none {s : Server} (h : s.rules = none) (t : Nat) : passes s t = ({ s with now := max s.now t }, []) := by
  unfold passes
  simp only [h]
  rfl
structure Rest (s t : Server) : Prop where
  now : t.now = s.now
  rules : t.rules = s.rules
  ends : t.ends = s.ends
  asked : t.asked = s.asked
theorem Rest.trans {a b c : Server} (h : Rest a b) (k : Rest b c) : Rest a c := ⟨k.now.trans h.now, k.rules.trans h.rules, k.ends.trans h.ends, k.asked.trans h.asked⟩
theorem Rest.refl (a : Server) : Rest a a := ⟨rfl, rfl, rfl, rfl⟩
theorem leave_Rest (s : Server) (why : Nat) (l : List Conn) : Rest s (Sw55.leave s why l).1 := by
  obtain ⟨h1, h2, h3, h4, _⟩ := leave_rest s why l
  exact ⟨h1, h2, h3, h4⟩
theorem idle_ok {r : Rules} {s : Server} (h : Ok0 s) : Ok0 (idleOut r s).1 ∧ Rest s (idleOut r s).1 := ⟨h.leave _ _, leave_Rest _ _ _⟩
theorem quiet_ok {s : Server} (h : Ok0 s) : Ok0 (quietOut s).1 ∧ Rest s (quietOut s).1 ∧ ((quietOut s).1.ends.isSome = true → NoQuiet (quietOut s).1) := by
  unfold quietOut
  split
  · rename_i z
    refine ⟨h.leave _ _, leave_Rest _ _ _, fun _ c hc => ?_⟩
    rw [leave_filter h.srt] at hc
    have := (List.mem_filter.mp hc).2
    simpa using this
  · rename_i z
    exact ⟨h, Rest.refl s, fun q => absurd q z⟩
theorem grace_ok {s : Server} (h : Ok0 s) (hq : s.ends.isSome = true → NoQuiet s) : Ok0 (graceOut s).1 ∧ Rest s (graceOut s).1 ∧ ((graceOut s).1.ends.isSome = true → NoQuiet (graceOut s).1) := by
  unfold graceOut
  split
  · exact ⟨h, Rest.refl s, hq⟩
  · rename_i e he
    split
    · refine ⟨h.leave 3 _, leave_Rest _ 3 _, fun _ c hc => ?_⟩
      have e1 : (Sw55.leave s 3 s.conns).1.conns = [] := by
        unfold Sw55.leave
        rw [fold_without]
        show s.conns.filter _ = []
        rw [List.filter_eq_nil_iff]
        intro c hc z
        have : (s.conns.any fun x => x.number == c.number) = true := List.any_eq_true.mpr ⟨c, hc, by simp⟩
        rw [this] at z
        cases z
      have hc' : c ∈ (Sw55.leave s 3 s.conns).1.conns := hc
      rw [e1] at hc'
      cases hc'
    · exact ⟨h, Rest.refl s, hq⟩
theorem after_ok {s : Server} (h : Ok0 s) (hq : s.ends.isSome = true → NoQuiet s) : Ok (after s).1 ∧ Settled (after s).1 ∧ Rest s (after s).1 := by
  obtain ⟨h1, h2, h3, h4, h5, h6, _⟩ := behind h hq
  exact ⟨h1, h2, h3, h4, h5, h6⟩
theorem settle_ok {s : Server} (h : Ok0 s) : Ok (settle s).1 ∧ Settled (settle s).1 ∧ Rest s (settle s).1 := by
  cases e : s.rules with
  | none =>
    unfold settle
    rw [e]
    obtain ⟨z1, z2⟩ := h.non e
    refine ⟨{ h with row := ?_ }, ⟨?_, ?_⟩, Rest.refl s⟩
    · intro c hc
      have hc' : c ∈ s.conns := hc
      rw [z1] at hc'; cases hc'
    · show turn1 s = none
      unfold turn1; rw [e]
    · intro q
      have q' : s.ends.isSome = true := q
      rw [z2] at q'; cases q'
  | some r =>
    rw [settle_eq e, then_fst]
    obtain ⟨q1, q2, q3⟩ := quiet_ok h
    obtain ⟨a1, a2, a3⟩ := after_ok q1 q3
    exact ⟨a1, a2, q2.trans a3⟩
theorem Ok.later {s : Server} (h : Ok s) {t : Nat} (ht : s.now ≤ t) : Ok { s with now := t } :=
  { srt := h.srt, len := h.len, rnd := h.rnd, rin := h.rin, win := h.win, crd := h.crd, rul := h.rul, non := h.non, cnt := h.cnt, row := h.row,
    cok := fun c hc => let z := h.cok c hc; ⟨z.lt, z.w1, z.w16, z.cost, z.ids, Nat.le_trans z.at_ ht⟩ }
theorem passes_ok {s : Server} (h : Ok s) (t : Nat) : Ok (passes s t).1 ∧ Settled (passes s t).1 ∧ (passes s t).1.now = max s.now t ∧ (passes s t).1.rules = s.rules ∧ (passes s t).1.ends = s.ends ∧ (passes s t).1.asked = s.asked := by
  have h' : Ok { s with now := max s.now t } := h.later (Nat.le_max_left _ _)
  cases e : s.rules with
  | none =>
    rw [passes_none e]
    obtain ⟨z1, z2⟩ := h.non e
    refine ⟨h', ⟨?_, ?_⟩, rfl, e, rfl, rfl⟩
    · unfold turn1
      show (match s.rules with | none => none | some r => _) = none
      rw [e]
    · intro q
      have q' : s.ends.isSome = true := q
      rw [z2] at q'; cases q'
  | some r =>
    rw [passes_eq e, then_fst, then_fst, then_fst, then_fst]
    have a0 := lateAll_ok (r := r) h'
    have a1 : Rest { s with now := max s.now t } (lateAll r { s with now := max s.now t }).1 := by rw [lateAll_def]; exact ⟨rfl, rfl, rfl, rfl⟩
    obtain ⟨b0, b1⟩ := idle_ok (r := r) a0
    obtain ⟨c0, c1, c2⟩ := quiet_ok b0
    obtain ⟨d0, d1, d2⟩ := grace_ok c0 c2
    obtain ⟨e0, e1, e2⟩ := after_ok d0 d2
    have f := (((a1.trans b1).trans c1).trans d1).trans e2
    exact ⟨e0, e1, f.now, f.rules.trans e, f.ends, f.asked⟩
end Fd
end
section
namespace Fd
open Sw55
theorem ok_fst (v : Int) (x : Does) : (Sw55.ok v x).1 = x.1 := rfl
structure Next (s t : Server) : Prop where
  ok : Ok t
  asked : t.asked ≤ s.asked + 1
theorem Next.refl {s : Server} (h : Ok s) : Next s s := ⟨h, Nat.le_succ _⟩
theorem ofConn_ok {s : Server} {k now : Nat} {f : Rules → Server → Conn → Int × Does} (h : Ok s)
    (hf : ∀ r t c, t.rules = some r → Ok t → c ∈ t.conns → c.number = k → Ok0 (f r t c).2.1 ∧ (f r t c).2.1.asked ≤ t.asked + 1) : Next s (ofConn s k now f).1 := by
  unfold ofConn
  split
  · exact Next.refl h
  · obtain ⟨p1, p2, p3, p4, p5, p6⟩ := passes_ok h now
    dsimp only
    split
    · rename_i r c hr hc
      obtain ⟨hm, hk⟩ := pick_some hc
      obtain ⟨f1, f2⟩ := hf r _ c hr p1 hm hk
      obtain ⟨s1, s2, s3⟩ := settle_ok f1
      rw [ok_fst, then_fst, then_fst]
      exact ⟨s1, by rw [s3.asked]; omega⟩
    · rw [ok_fst]
      exact ⟨p1, by omega⟩
theorem cok_heard {now t : Nat} {c : Conn} (h : ConnOk now c) : ConnOk now { c with heard := t } := ⟨h.lt, h.w1, h.w16, h.cost, h.ids, h.at_⟩
theorem Ok.same {t t' : Server} (h : Ok t) {c d : Conn} (hc : c ∈ t.conns) (en : d.number = c.number) (hd : ConnOk t.now d) (ew : d.waiting = c.waiting) (ek : d.working = c.working) (ec : d.credit = c.credit)
    (e : t'.conns = repl d t.conns) (er : t'.row = t.row) (enow : t'.now = t.now) (erul : t'.rules = t.rules) (eends : t'.ends = t.ends) (ea : t'.asked = t.asked) : Ok t' := by
  refine h.put hc en hd (by rw [er]; exact h.rnd) (fun k _ => by rw [er]) ?_ ?_ e enow erul eends ?_
  · rw [er, ew]
    exact ⟨h.win c hc, h.row c hc⟩
  · intro z
    rw [ew] at z
    rw [ec]
    exact h.crd c hc z fun q => h.row c hc q z
  · unfold held
    rw [ew, ek, ea]
    exact Nat.le_refl _
theorem has_iff (c : Conn) (id : Nat) : c.has id = true ↔ id ∈ c.waiting.map (·.id) ++ c.working.map (·.1) := by
  unfold Conn.has
  simp [List.any_eq_true]
theorem asks_ok {s : Server} (h : Ok s) (k id cost now : Nat) (b : Bytes) : Next s (step s (.asks k id cost now b)).1 := by
  unfold step
  dsimp only
  split
  · exact Next.refl h
  · rename_i hn
    have hcost : 1 ≤ cost ∧ cost ≤ 65535 := by
      have : within cost 1 65535 = true := by
        cases z : within cost 1 65535 with
        | true => rfl
        | false => exact absurd (Or.inr (Or.inl z)) hn
      unfold within at this
      simpa using this
    refine ofConn_ok h fun r t c hr ht hc hk => ?_
    have co := ht.cok c hc
    split
    · exact ⟨ht.toOk0, Nat.le_succ _⟩
    · rename_i hhas
      split
      · exact ⟨(ht.same (t' := ({ t with refused := t.refused + 1 } : Server).with_ (heardNow t c)) hc (d := heardNow t c) rfl (cok_heard co) rfl rfl rfl rfl rfl rfl rfl rfl rfl).toOk0, Nat.le_succ _⟩
      · split
        · exact ⟨(ht.same (t' := ({ t with refused := t.refused + 1 } : Server).with_ { heardNow t c with level := (heardNow t c).filled r t.now, levelAt := t.now }) hc (d := { heardNow t c with level := (heardNow t c).filled r t.now, levelAt := t.now }) rfl ⟨co.lt, co.w1, co.w16, co.cost, co.ids, Nat.le_refl _⟩ rfl rfl rfl rfl rfl rfl rfl rfl rfl).toOk0, Nat.le_succ _⟩
        · split
          · exact ⟨(ht.same (t' := ({ t with refused := t.refused + 1 } : Server).with_ (heardNow t c)) hc (d := heardNow t c) rfl (cok_heard co) rfl rfl rfl rfl rfl rfl rfl rfl rfl).toOk0, Nat.le_succ _⟩
          · refine ⟨?_, Nat.le_refl _⟩
            have hhas' : ¬ id ∈ c.waiting.map (·.id) ++ c.working.map (·.1) := fun z => hhas ((has_iff c id).mpr z)
            refine (ht.put hc (s' := ({ t with asked := t.asked + 1, row := if (heardNow t c).waiting.isEmpty = true then t.row ++ [k] else t.row } : Server).with_ _)
              (d := { heardNow t c with waiting := (heardNow t c).waiting ++ [(⟨id, cost, b, t.now⟩ : Req)], level := if 0 < r.rate then (heardNow t c).filled r t.now - 1000 else (heardNow t c).level, levelAt := if 0 < r.rate then t.now else (heardNow t c).levelAt })
              rfl ⟨co.lt, co.w1, co.w16, ?_, ?_, ?_⟩ ?_ ?_ ?_ ?_ rfl rfl rfl rfl ?_).toOk0
            · intro q hq
              rcases List.mem_append.mp hq with hq | hq
              · exact co.cost q hq
              · simp at hq; subst hq; exact hcost
            · show ((c.waiting ++ [(⟨id, cost, b, t.now⟩ : Req)]).map (·.id) ++ c.working.map (·.1)).Nodup
              have e : ((c.waiting ++ [(⟨id, cost, b, t.now⟩ : Req)]).map (·.id) ++ c.working.map (·.1)).Perm (id :: (c.waiting.map (·.id) ++ c.working.map (·.1))) := by
                rw [List.map_append, List.append_assoc]
                exact List.perm_middle
              exact e.nodup_iff.mpr (List.nodup_cons.mpr ⟨hhas', co.ids⟩)
            · show (if 0 < r.rate then t.now else c.levelAt) ≤ t.now
              split
              · exact Nat.le_refl _
              · exact co.at_
            · show (if c.waiting.isEmpty = true then t.row ++ [k] else t.row).Nodup
              split
              · rename_i z
                refine nodup_snoc.mpr (List.nodup_cons.mpr ⟨fun q => ?_, ht.rnd⟩)
                exact ht.row c hc (by rw [hk]; exact q) (by simpa using z)
              · exact ht.rnd
            · intro j hj
              show j ∈ (if c.waiting.isEmpty = true then t.row ++ [k] else t.row) ↔ _
              rw [hk] at hj
              split
              · simp [hj]
              · exact Iff.rfl
            · show c.waiting ++ [(⟨id, cost, b, t.now⟩ : Req)] ≠ [] ↔ c.number ∈ (if c.waiting.isEmpty = true then t.row ++ [k] else t.row)
              constructor
              · intro _
                split
                · rw [hk]; simp
                · rename_i z
                  exact ht.win c hc (by simpa using z)
              · intro _; simp
            · intro z
              have z' : c.waiting ++ [(⟨id, cost, b, t.now⟩ : Req)] = [] := z
              simp at z'
            · show t.asked + ((c.waiting ++ [(⟨id, cost, b, t.now⟩ : Req)]).length + c.working.length) ≤ t.asked + 1 + (c.waiting.length + c.working.length)
              simp
              omega
theorem nodup_filter_ids {l : List Req} {m : List (Nat × Nat)} {p : Req → Bool} {q : Nat × Nat → Bool} (h : (l.map (·.id) ++ m.map (·.1)).Nodup) : ((l.filter p).map (·.id) ++ (m.filter q).map (·.1)).Nodup :=
  List.Nodup.sublist (List.Sublist.append (List.Sublist.map _ List.filter_sublist) (List.Sublist.map _ List.filter_sublist)) h
theorem answers_ok {s : Server} (h : Ok s) (k id now : Nat) (b : Bytes) : Next s (step s (.answers k id now b)).1 := by
  unfold step
  dsimp only
  split
  · exact Next.refl h
  · refine ofConn_ok h fun r t c hr ht hc hk => ?_
    have co := ht.cok c hc
    split
    · exact ⟨ht.toOk0, Nat.le_succ _⟩
    · refine ⟨(ht.toOk0.put hc (d := { c with working := c.working.filter fun w => w.1 != id, heard := t.now }) rfl ⟨co.lt, co.w1, co.w16, co.cost, ?_, co.at_⟩ ht.rnd (fun _ _ => Iff.rfl) (fun z => ht.win c hc z) (fun z q => ht.crd c hc z q) rfl rfl rfl rfl ?_), Nat.le_succ _⟩
      · have := nodup_filter_ids (p := fun _ => true) (q := fun w => w.1 != id) co.ids
        rwa [List.filter_eq_self.mpr fun _ _ => rfl] at this
      · have := List.length_filter_le (fun w : Nat × Nat => w.1 != id) c.working
        show t.asked + (c.waiting.length + (c.working.filter fun w => w.1 != id).length) ≤ t.asked + (c.waiting.length + c.working.length)
        omega
theorem drops_ok {s : Server} (h : Ok s) (k id now : Nat) : Next s (step s (.drops k id now)).1 := by
  unfold step
  dsimp only
  refine ofConn_ok h fun r t c hr ht hc hk => ?_
  have co := ht.cok c hc
  split
  · refine ⟨(ht.toOk0.put hc (d := { heardNow t c with working := c.working.filter fun w => w.1 != id }) rfl ⟨co.lt, co.w1, co.w16, co.cost, ?_, co.at_⟩ ht.rnd (fun _ _ => Iff.rfl) (fun z => ht.win c hc z) (fun z q => ht.crd c hc z q) rfl rfl rfl rfl ?_), Nat.le_succ _⟩
    · have := nodup_filter_ids (p := fun _ => true) (q := fun w => w.1 != id) co.ids
      rwa [List.filter_eq_self.mpr fun _ _ => rfl] at this
    · have := List.length_filter_le (fun w : Nat × Nat => w.1 != id) c.working
      show t.asked + (c.waiting.length + (c.working.filter fun w => w.1 != id).length) ≤ t.asked + (c.waiting.length + c.working.length)
      omega
  · split
    · refine ⟨(ht.toOk0.put hc (d := { heardNow t c with waiting := c.waiting.filter fun q => q.id != id }) rfl ⟨co.lt, co.w1, co.w16, fun q hq => co.cost q (List.mem_filter.mp hq).1, ?_, co.at_⟩ ht.rnd (fun _ _ => Iff.rfl) (fun z => ht.win c hc fun q => z ?_) (fun z q => ht.crd c hc ?_ q) rfl rfl rfl rfl ?_), Nat.le_succ _⟩
      · have := nodup_filter_ids (p := fun w => w.id != id) (q := fun _ => true) co.ids
        rwa [List.filter_eq_self (l := c.working).mpr fun _ _ => rfl] at this
      · show c.waiting.filter _ = []
        rw [q]; rfl
      · cases z2 : c.waiting with
        | nil => rfl
        | cons a l => exact absurd (ht.win c hc (by rw [z2]; simp)) q
      · have := List.length_filter_le (fun w : Req => w.id != id) c.waiting
        show t.asked + ((c.waiting.filter fun q => q.id != id).length + c.working.length) ≤ t.asked + (c.waiting.length + c.working.length)
        omega
    · exact ⟨ht.toOk0, Nat.le_succ _⟩
theorem leaves_ok {s : Server} (h : Ok s) (k now : Nat) : Next s (step s (.leaves k now)).1 := by
  unfold step
  exact ofConn_ok h fun r t c hr ht hc hk => ⟨ht.toOk0.without k, Nat.le_succ _⟩
theorem heard_ok {s : Server} (h : Ok s) (k now : Nat) : Next s (step s (.heard k now)).1 := by
  unfold step
  exact ofConn_ok h fun r t c hr ht hc hk => ⟨(ht.same (t' := t.with_ (heardNow t c)) hc (d := heardNow t c) rfl (cok_heard (ht.cok c hc)) rfl rfl rfl rfl rfl rfl rfl rfl rfl).toOk0, Nat.le_succ _⟩
theorem weight_ok {s : Server} (h : Ok s) (k w now : Nat) : Next s (step s (.weight k w now)).1 := by
  unfold step
  dsimp only
  split
  · exact Next.refl h
  · rename_i hw
    have hw' : 1 ≤ w ∧ w ≤ 16 := by
      unfold within at hw
      simpa using hw
    refine ofConn_ok h fun r t c hr ht hc hk => ⟨(ht.same (t' := t.with_ { c with weight := w }) hc (d := { c with weight := w }) rfl ?_ rfl rfl rfl rfl rfl rfl rfl rfl rfl).toOk0, Nat.le_succ _⟩
    have co := ht.cok c hc
    exact ⟨co.lt, hw'.1, hw'.2, co.cost, co.ids, co.at_⟩
theorem tick_ok {s : Server} (h : Ok s) (now : Nat) : Next s (step s (.tick now)).1 := by
  unfold step
  dsimp only
  split
  · exact Next.refl h
  · obtain ⟨p1, p2, p3, p4, p5, p6⟩ := passes_ok h now
    rw [ok_fst]
    exact ⟨p1, by omega⟩
theorem Ok0.ending {s : Server} (h : Ok0 s) {e : Option Nat} (hr : s.rules ≠ none) : Ok0 { s with ends := e } :=
  { srt := h.srt, len := h.len, rnd := h.rnd, rin := h.rin, win := h.win, crd := h.crd, rul := h.rul, non := fun z => absurd z hr, cnt := h.cnt, cok := h.cok }
theorem stop_eq (r : Rules) (t : Server) : ((leaves r t).then_ fun u => turns FUEL (tidy u)) = (idleOut r t).then_ fun a => (quietOut a).then_ fun b => (graceOut b).then_ after := by
  rw [leaves_eq, then_assoc]
  apply then_congr
  rw [then_assoc]
  rfl
theorem stop_ok {s : Server} (h : Ok s) (grace now : Nat) : Next s (step s (.halt_ grace now)).1 := by
  unfold step
  dsimp only
  split
  · exact Next.refl h
  · obtain ⟨p1, p2, p3, p4, p5, p6⟩ := passes_ok h now
    split
    · rw [ok_fst]
      exact ⟨p1, by omega⟩
    · rename_i r hr
      split
      · rw [ok_fst]
        exact ⟨p1, by omega⟩
      · rw [ok_fst, then_fst, stop_eq, then_fst, then_fst, then_fst]
        have a0 : Ok0 { (passes s now).1 with ends := some ((passes s now).1.now + grace) } := p1.toOk0.ending (by rw [hr]; simp)
        obtain ⟨b0, b1⟩ := idle_ok (r := r) a0
        obtain ⟨c0, c1, c2⟩ := quiet_ok b0
        obtain ⟨d0, d1, d2⟩ := grace_ok c0 c2
        obtain ⟨e0, e1, e2⟩ := after_ok d0 d2
        have f := ((b1.trans c1).trans d1).trans e2
        refine ⟨e0, ?_⟩
        rw [f.asked]
        show (passes s now).1.asked ≤ _
        omega
theorem begin_ok {s : Server} (h : Ok s) (most each work wait idle limit rate burst now : Nat) : Next s (step s (.begin_ most each work wait idle limit rate burst now)).1 := by
  unfold step
  dsimp only
  split
  · exact Next.refl h
  · rename_i hw
    have hw' : (within most 1 CONNS && (within each 1 CONNS && (within work 1 1024 && (within wait 0 64 && (within idle 0 (2 ^ 31) && (within limit 0 (2 ^ 31) && (within rate 0 1000000 && (within burst 1 1000 && within now 0 TIME)))))))) = true := by
      cases z : (within most 1 CONNS && (within each 1 CONNS && (within work 1 1024 && (within wait 0 64 && (within idle 0 (2 ^ 31) && (within limit 0 (2 ^ 31) && (within rate 0 1000000 && (within burst 1 1000 && within now 0 TIME)))))))) with
      | true => rfl
      | false => exact absurd z hw
    unfold within CONNS TIME at hw'
    simp only [Bool.and_eq_true, decide_eq_true_eq] at hw'
    obtain ⟨⟨a1, a2⟩, ⟨b1, b2⟩, ⟨c1, c2⟩, ⟨d1, d2⟩, ⟨e1, e2⟩, ⟨f1, f2⟩, ⟨g1, g2⟩, ⟨i1, i2⟩, j1, j2⟩ := hw'
    rw [ok_fst]
    refine ⟨{ srt := List.Pairwise.nil, len := Nat.zero_le _, cok := ?_, rnd := List.Pairwise.nil, rin := ?_, win := ?_, crd := ?_, rul := ?_, non := ?_, cnt := Nat.le_refl _, row := ?_ }, Nat.zero_le _⟩
    · intro c hc; cases hc
    · intro c hc; cases hc
    · intro c hc; cases hc
    · intro c hc; cases hc
    · intro r hr
      cases hr
      exact ⟨a1, a2, b1, b2, c1, c2, d2, e2, f2, g2, i1, i2⟩
    · intro z; cases z
    · intro c hc; cases hc
theorem mem_insert {c d : Conn} : ∀ {l : List Conn}, d ∈ Sw55.insert c l ↔ d = c ∨ d ∈ l
  | [] => by simp [Sw55.insert]
  | x :: r => by
    unfold Sw55.insert
    split
    · simp
    · rw [List.mem_cons, mem_insert (l := r), List.mem_cons]
      constructor
      · rintro (h | h | h)
        · exact .inr (.inl h)
        · exact .inl h
        · exact .inr (.inr h)
      · rintro (h | h | h)
        · exact .inr (.inl h)
        · exact .inl h
        · exact .inr (.inr h)
theorem srt_insert {c : Conn} : ∀ {l : List Conn}, Srt l → (∀ d ∈ l, d.number ≠ c.number) → Srt (Sw55.insert c l)
  | [], _, _ => List.pairwise_singleton _ _
  | x :: r, h, hn => by
    obtain ⟨h1, h2⟩ := List.pairwise_cons.mp h
    unfold Sw55.insert
    have hx := hn x List.mem_cons_self
    split
    · rename_i z
      refine List.pairwise_cons.mpr ⟨fun d hd => ?_, h⟩
      rcases List.mem_cons.mp hd with rfl | hd
      · exact z
      · have := h1 d hd; omega
    · rename_i z
      refine List.pairwise_cons.mpr ⟨fun d hd => ?_, srt_insert h2 fun d hd => hn d (List.mem_cons_of_mem _ hd)⟩
      rcases mem_insert.mp hd with rfl | hd
      · omega
      · exact h1 d hd
theorem sum_insert (f : Conn → Nat) (c : Conn) : ∀ l : List Conn, ((Sw55.insert c l).map f).sum = f c + (l.map f).sum
  | [] => by simp [Sw55.insert]
  | x :: r => by
    unfold Sw55.insert
    split
    · simp
    · rw [List.map_cons, List.sum_cons, sum_insert f c r, List.map_cons, List.sum_cons]
      omega
theorem length_insert (c : Conn) : ∀ l : List Conn, (Sw55.insert c l).length = l.length + 1
  | [] => rfl
  | x :: r => by
    unfold Sw55.insert
    split
    · simp
    · rw [List.length_cons, length_insert c r, List.length_cons]
theorem Ok.comes {t : Server} (h : Ok t) {c : Conn} (hn : ∀ d ∈ t.conns, d.number ≠ c.number) (hc : ConnOk t.now c) (hl : t.conns.length < 64) (hr : t.rules ≠ none) (ew : c.waiting = []) (ek : c.working = []) (ec : c.credit = 0) :
    Ok { t with conns := Sw55.insert c t.conns } where
  srt := srt_insert h.srt hn
  len := by
    show (Sw55.insert c t.conns).length ≤ 64
    rw [length_insert]; omega
  cok := by
    intro d hd
    rcases mem_insert.mp hd with rfl | hd
    · exact hc
    · exact h.cok d hd
  rnd := h.rnd
  rin := by
    intro k hk
    obtain ⟨d, hd, e⟩ := h.rin k hk
    exact ⟨d, mem_insert.mpr (.inr hd), e⟩
  win := by
    intro d hd hw
    rcases mem_insert.mp hd with rfl | hd
    · exact absurd ew hw
    · exact h.win d hd hw
  crd := by
    intro d hd hw hn
    rcases mem_insert.mp hd with rfl | hd
    · exact ec
    · exact h.crd d hd hw hn
  rul := h.rul
  non := fun z => absurd z hr
  cnt := by
    show ((Sw55.insert c t.conns).map held).sum ≤ t.asked
    rw [sum_insert]
    have : held c = 0 := by unfold held; rw [ew, ek]; rfl
    have := h.cnt
    omega
  row := by
    intro d hd hr
    rcases mem_insert.mp hd with rfl | hd
    · obtain ⟨x, hx, e⟩ := h.rin _ hr
      exact absurd e (hn x hx)
    · exact h.row d hd hr
theorem arrives_ok {s : Server} (h : Ok s) (from_ now : Nat) : Next s (step s (.arrives from_ now)).1 := by
  unfold step
  dsimp only
  split
  · exact Next.refl h
  · obtain ⟨p1, p2, p3, p4, p5, p6⟩ := passes_ok h now
    split
    · rw [ok_fst]; exact ⟨p1, by omega⟩
    · rename_i r hr
      split
      · rw [ok_fst]; exact ⟨p1, by omega⟩
      · split
        · rw [ok_fst]; exact ⟨p1, by omega⟩
        · rename_i hm
          split
          · rw [ok_fst]; exact ⟨p1, by omega⟩
          · split
            · rw [ok_fst]; exact ⟨p1, by omega⟩
            · rename_i k hk
              rw [ok_fst, then_fst]
              have ro := (p1.rul r hr).most
              have hk1 := List.find?_some hk
              have hk2 : k < 64 := by simpa [CONNS] using List.mem_of_find?_eq_some hk
              refine ⟨p1.comes (c := { number := k, from_ := from_, heard := (passes s now).1.now, level := 1000 * r.burst, levelAt := (passes s now).1.now }) (fun d hd e => ?_) ⟨hk2, Nat.le_refl _, (by show 1 ≤ 16; decide), (fun q hq => by cases hq), List.Pairwise.nil, Nat.le_refl _⟩ (by omega) (by rw [hr]; simp) rfl rfl rfl, ?_⟩
              · have e' : d.number = k := e
                have : pick (passes s now).1.conns k = none := by simpa [conn_eq] using hk1
                exact pick_none this d hd e'
              · show (passes s now).1.asked ≤ _
                omega
theorem step_ok {s : Server} (h : Ok s) (c : Sw55.Call) : Next s (step s c).1 := by
  cases c with
  | begin_ a b c d e f g i j => exact begin_ok h a b c d e f g i j
  | arrives f n => exact arrives_ok h f n
  | asks k i c n b => exact asks_ok h k i c n b
  | answers k i n b => exact answers_ok h k i n b
  | drops k i n => exact drops_ok h k i n
  | leaves k n => exact leaves_ok h k n
  | heard k n => exact heard_ok h k n
  | weight k w n => exact weight_ok h k w n
  | tick n => exact tick_ok h n
  | halt_ g n => exact stop_ok h g n
  | due => exact Next.refl h
  | told => exact Next.refl h
  | look k =>
    unfold step
    dsimp only
    split
    · exact Next.refl h
    · exact Next.refl h
theorem start_ok : Ok (Sw55Neutral.start) where
  srt := List.Pairwise.nil
  len := Nat.zero_le _
  cok := fun c hc => by cases hc
  rnd := List.Pairwise.nil
  rin := fun c hc => by cases hc
  win := fun c hc => by cases hc
  crd := fun c hc => by cases hc
  rul := fun r hr => by cases hr
  non := fun _ => ⟨rfl, rfl⟩
  cnt := Nat.le_refl _
  row := fun c hc => by cases hc
end Fd
end
section
namespace Fd
open Sw55
theorem calls_cons {f : Nat} {p : Int} {r : List Int} {cs : List (List (List Int))} (h : PyFlat.calls PySw55.shape f (p :: r) = some cs) :
    ∃ f' c t cs', PyFlat.call PySw55.shape (p :: r) = some (c, t) ∧ PyFlat.calls PySw55.shape f' t = some cs' ∧ cs = c :: cs' := by
  cases f with
  | zero => simp [PyFlat.calls] at h
  | succ f =>
    unfold PyFlat.calls at h
    split at h
    · cases h
    · rename_i c t e
      split at h
      · cases h
      · rename_i cs' e'
        cases h
        exact ⟨f, c, t, cs', e, e', rfl⟩
theorem calls_nil {f : Nat} {cs : List (List (List Int))} (h : PyFlat.calls PySw55.shape f [] = some cs) : cs = [] := by
  cases f <;> simp [PyFlat.calls] at h <;> exact h
theorem ite_or {α : Type} {p : Prop} [Decidable p] {a b c : α} (h : (if p then a else b) = c) : (p ∧ a = c) ∨ (¬p ∧ b = c) := by
  by_cases q : p <;> simp [q] at h ⊢ <;> exact h
theorem shape_place {p : Int} {n k : Nat} (h : PySw55.shape p = some (n, k)) : (p = 1 ∧ n = 9 ∧ k = 0) ∨ (p = 2 ∧ n = 2 ∧ k = 0) ∨ (p = 3 ∧ n = 4 ∧ k = 1) ∨ (p = 4 ∧ n = 3 ∧ k = 1) ∨ (p = 5 ∧ n = 3 ∧ k = 0) ∨ (p = 6 ∧ n = 2 ∧ k = 0) ∨ (p = 7 ∧ n = 2 ∧ k = 0) ∨
    (p = 8 ∧ n = 3 ∧ k = 0) ∨ (p = 9 ∧ n = 1 ∧ k = 0) ∨ (p = 10 ∧ n = 2 ∧ k = 0) ∨ (p = 11 ∧ n = 0 ∧ k = 0) ∨ (p = 12 ∧ n = 0 ∧ k = 0) ∨ (p = 13 ∧ n = 1 ∧ k = 0) := by
  unfold PySw55.shape at h
  iterate 13 (rcases ite_or h with ⟨z, h⟩ | ⟨_, h⟩; · cases h; subst z; decide)
  cases h
theorem call_parts {p : Int} {r : List Int} {c : List (List Int)} {t : List Int} (h : PyFlat.call PySw55.shape (p :: r) = some (c, t)) :
    ∃ n k, PySw55.shape p = some (n, k) ∧ n ≤ r.length ∧ ((k = 0 ∧ c = [p :: r.take n] ∧ t = r.drop n) ∨
      (k = 1 ∧ ∃ (m : Nat) (q : List Int), r.drop n = (m : Int) :: q ∧ m ≤ q.length ∧ c = [p :: r.take n, q.take m] ∧ t = q.drop m)) := by
  cases hs : PySw55.shape p with
  | none => simp [PyFlat.call, hs] at h
  | some nk =>
    obtain ⟨n, k⟩ := nk
    simp only [PyFlat.call, hs] at h
    split at h
    · cases h
    · rename_i hn
      refine ⟨n, k, rfl, by omega, ?_⟩
      have hk : k = 0 ∨ k = 1 := by
        have := shape_place hs
        omega
      rcases hk with rfl | rfl
      · simp only [PyFlat.rows] at h
        cases h
        exact .inl ⟨rfl, rfl, rfl⟩
      · simp only [PyFlat.rows] at h
        cases e : r.drop n with
        | nil => rw [e] at h; simp [PyFlat.row] at h
        | cons m q =>
          rw [e] at h
          simp only [PyFlat.row] at h
          by_cases z : 0 ≤ m ∧ m.toNat ≤ q.length
          · rw [if_pos z] at h
            dsimp only at h
            cases h
            exact .inr ⟨rfl, m.toNat, q, by rw [Int.toNat_of_nonneg z.1], z.2, rfl, rfl⟩
          · rw [if_neg z] at h
            cases h
inductive Shp : List (List Int) → Prop
  | s1 (a1 a2 a3 a4 a5 a6 a7 a8 a9 : Int) : Shp [[1, a1, a2, a3, a4, a5, a6, a7, a8, a9]]
  | s2 (a1 a2 : Int) : Shp [[2, a1, a2]]
  | s3 (a1 a2 a3 a4 : Int) (b : List Int) : Shp [[3, a1, a2, a3, a4], b]
  | s4 (a1 a2 a3 : Int) (b : List Int) : Shp [[4, a1, a2, a3], b]
  | s5 (a1 a2 a3 : Int) : Shp [[5, a1, a2, a3]]
  | s6 (a1 a2 : Int) : Shp [[6, a1, a2]]
  | s7 (a1 a2 : Int) : Shp [[7, a1, a2]]
  | s8 (a1 a2 a3 : Int) : Shp [[8, a1, a2, a3]]
  | s9 (a1 : Int) : Shp [[9, a1]]
  | s10 (a1 a2 : Int) : Shp [[10, a1, a2]]
  | s11 : Shp [[11]]
  | s12 : Shp [[12]]
  | s13 (a1 : Int) : Shp [[13, a1]]
theorem one_more {r : List Int} {n : Nat} (h : n + 1 ≤ r.length) : ∃ a t, r = a :: t ∧ n ≤ t.length := by
  cases r with
  | nil => cases h
  | cons a t => exact ⟨a, t, rfl, Nat.le_of_succ_le_succ h⟩
theorem call_shp {p : Int} {r : List Int} {c : List (List Int)} {t : List Int} (h : PyFlat.call PySw55.shape (p :: r) = some (c, t)) : Shp c := by
  obtain ⟨n, k, es, hn, parts⟩ := call_parts h
  rcases shape_place es with ⟨rfl, rfl, rfl⟩ | ⟨rfl, rfl, rfl⟩ | ⟨rfl, rfl, rfl⟩ | ⟨rfl, rfl, rfl⟩ | ⟨rfl, rfl, rfl⟩ | ⟨rfl, rfl, rfl⟩ | ⟨rfl, rfl, rfl⟩ | ⟨rfl, rfl, rfl⟩ | ⟨rfl, rfl, rfl⟩ | ⟨rfl, rfl, rfl⟩ | ⟨rfl, rfl, rfl⟩ | ⟨rfl, rfl, rfl⟩ | ⟨rfl, rfl, rfl⟩
  · rcases parts with ⟨_, rfl, _⟩ | ⟨z, _⟩
    rotate_left
    · cases z
    iterate 9 (obtain ⟨_, _, rfl, g⟩ := one_more hn; clear hn; have hn := g; clear g)
    exact .s1 ..
  · rcases parts with ⟨_, rfl, _⟩ | ⟨z, _⟩
    rotate_left
    · cases z
    iterate 2 (obtain ⟨_, _, rfl, g⟩ := one_more hn; clear hn; have hn := g; clear g)
    exact .s2 ..
  · rcases parts with ⟨z, _⟩ | ⟨_, m, q, _, _, rfl, _⟩
    · cases z
    iterate 4 (obtain ⟨_, _, rfl, g⟩ := one_more hn; clear hn; have hn := g; clear g)
    exact .s3 ..
  · rcases parts with ⟨z, _⟩ | ⟨_, m, q, _, _, rfl, _⟩
    · cases z
    iterate 3 (obtain ⟨_, _, rfl, g⟩ := one_more hn; clear hn; have hn := g; clear g)
    exact .s4 ..
  · rcases parts with ⟨_, rfl, _⟩ | ⟨z, _⟩
    rotate_left
    · cases z
    iterate 3 (obtain ⟨_, _, rfl, g⟩ := one_more hn; clear hn; have hn := g; clear g)
    exact .s5 ..
  · rcases parts with ⟨_, rfl, _⟩ | ⟨z, _⟩
    rotate_left
    · cases z
    iterate 2 (obtain ⟨_, _, rfl, g⟩ := one_more hn; clear hn; have hn := g; clear g)
    exact .s6 ..
  · rcases parts with ⟨_, rfl, _⟩ | ⟨z, _⟩
    rotate_left
    · cases z
    iterate 2 (obtain ⟨_, _, rfl, g⟩ := one_more hn; clear hn; have hn := g; clear g)
    exact .s7 ..
  · rcases parts with ⟨_, rfl, _⟩ | ⟨z, _⟩
    rotate_left
    · cases z
    iterate 3 (obtain ⟨_, _, rfl, g⟩ := one_more hn; clear hn; have hn := g; clear g)
    exact .s8 ..
  · rcases parts with ⟨_, rfl, _⟩ | ⟨z, _⟩
    rotate_left
    · cases z
    iterate 1 (obtain ⟨_, _, rfl, g⟩ := one_more hn; clear hn; have hn := g; clear g)
    exact .s9 ..
  · rcases parts with ⟨_, rfl, _⟩ | ⟨z, _⟩
    rotate_left
    · cases z
    iterate 2 (obtain ⟨_, _, rfl, g⟩ := one_more hn; clear hn; have hn := g; clear g)
    exact .s10 ..
  · rcases parts with ⟨_, rfl, _⟩ | ⟨z, _⟩
    rotate_left
    · cases z
    exact .s11
  · rcases parts with ⟨_, rfl, _⟩ | ⟨z, _⟩
    rotate_left
    · cases z
    exact .s12
  · rcases parts with ⟨_, rfl, _⟩ | ⟨z, _⟩
    rotate_left
    · cases z
    iterate 1 (obtain ⟨_, _, rfl, g⟩ := one_more hn; clear hn; have hn := g; clear g)
    exact .s13 ..
theorem calls_shp {cs : List (List (List Int))} : ∀ {f : Nat} {l : List Int}, PyFlat.calls PySw55.shape f l = some cs → ∀ c ∈ cs, Shp c := by
  induction cs with
  | nil => intro f l _ c hc; cases hc
  | cons d ds ih =>
    intro f l h c hc
    cases l with
    | nil => have := calls_nil h; cases this
    | cons p r =>
      obtain ⟨f', c', t, cs', e1, e2, e3⟩ := calls_cons h
      cases e3
      rcases List.mem_cons.mp hc with rfl | hc
      · exact call_shp e1
      · exact ih e2 c hc
theorem whole_id {c : List (List Int)} (h : Shp c) : PySw55.whole c = c := by
  cases h <;> rfl
theorem map_whole {cs : List (List (List Int))} (h : ∀ c ∈ cs, Shp c) : cs.map PySw55.whole = cs := by
  conv => rhs; rw [← List.map_id cs]
  exact List.map_congr_left fun c hc => whole_id (h c hc)
theorem calls_eq (l : List Int) : PySw55.calls l = PyFlat.calls PySw55.shape l.length l := by
  unfold PySw55.calls
  cases e : PyFlat.calls PySw55.shape l.length l with
  | none => rfl
  | some cs => exact congrArg some (map_whole (calls_shp e))
structure Asks (s : Server) (cs : List (List (List Int))) (n room : Nat) : Prop where
  all : ∀ c ∈ cs, Sw55Neutral.asked1 c = true
  many : Sw55Neutral.many s cs ≤ room
  len : cs.length ≤ n
theorem Asks.next {s : Server} {c : List (List Int)} {cs : List (List (List Int))} {n room : Nat} (h : Asks s (c :: cs) n room) :
    Sw55Neutral.asked1 c = true ∧ (Sw55Neutral.step s c).2.length ≤ room ∧ Asks (Sw55Neutral.step s c).1 cs (n - 1) (room - (Sw55Neutral.step s c).2.length) ∧ 1 ≤ n := by
  have hm := h.many
  have hl := h.len
  unfold Sw55Neutral.many at hm
  rw [List.length_cons] at hl
  exact ⟨h.all c List.mem_cons_self, by omega, ⟨fun d hd => h.all d (List.mem_cons_of_mem _ hd), by omega, by omega⟩, by omega⟩
theorem asked_iff {l : List Int} (h : PySw55.answers_asked l = true) : ∃ cs, PyFlat.calls PySw55.shape l.length l = some cs ∧ PySw55.answers l = PyFlat.told (PyFlat.played Sw55Neutral.step Sw55Neutral.start cs) ∧ Asks Sw55Neutral.start cs 1000 1000000 := by
  unfold PySw55.answers_asked at h
  unfold PySw55.answers
  split at h
  · cases h
  · rename_i cs e
    rw [calls_eq] at e
    rw [Bool.and_eq_true] at h
    obtain ⟨h1, h2⟩ := h
    unfold PyFlat.atMost at h1
    unfold Sw55Neutral.asked at h2
    rw [Bool.and_eq_true] at h2
    refine ⟨cs, e, ?_, fun c hc => List.all_eq_true.mp h2.1 c hc, of_decide_eq_true h2.2, of_decide_eq_true h1⟩
    rfl
theorem told_cons (a : List Int) (l : List (List Int)) : PyFlat.told (a :: l) = (a.length : Int) :: a ++ PyFlat.told l := by
  simp [PyFlat.told]
theorem played_cons (s : Server) (c : List (List Int)) (cs : List (List (List Int))) : PyFlat.played Sw55Neutral.step s (c :: cs) = (Sw55Neutral.step s c).2 :: PyFlat.played Sw55Neutral.step (Sw55Neutral.step s c).1 cs := rfl
end Fd
end
section
namespace Fd
open Sw55
section
variable {s : Server} {k now : Nat} {f : Rules → Server → Conn → Int × Does}
theorem ofConn_late (h : TIME < now) : ofConn s k now f = says s (-1) := by
  unfold ofConn
  rw [if_pos h]
theorem ofConn_out (h : ¬ TIME < now) (e : pick (passes s now).1.conns k = none) : ofConn s k now f = Sw55.ok (-2) (passes s now) := by
  unfold ofConn
  rw [if_neg h]
  dsimp only
  rw [conn_eq, e]
  split
  · rename_i h1 h2; cases h2
  · rfl
theorem ofConn_in {r : Rules} {c : Conn} (h : ¬ TIME < now) (er : (passes s now).1.rules = some r) (e : pick (passes s now).1.conns k = some c) :
    ofConn s k now f = Sw55.ok (f r (passes s now).1 c).1 ((passes s now).then_ fun _ => (f r (passes s now).1 c).2.then_ settle) := by
  unfold ofConn
  rw [if_neg h]
  dsimp only
  rw [conn_eq, e, er]
end
theorem in_rules {s : Server} (h : Ok0 s) {k : Nat} {c : Conn} (e : pick s.conns k = some c) : ∃ r, s.rules = some r := by
  cases er : s.rules with
  | none =>
    have := (h.non er).1
    rw [this] at e
    cases e
  | some r => exact ⟨r, rfl⟩
section
variable {t : Server} {c : Conn} (ht : Ok t) (hc : c ∈ t.conns)
include ht hc
theorem heard_mid : Ok (t.with_ (heardNow t c)) := ht.same (d := heardNow t c) hc rfl (cok_heard (ht.cok c hc)) rfl rfl rfl rfl rfl rfl rfl rfl rfl
theorem weight_mid {w : Nat} (h1 : 1 ≤ w) (h2 : w ≤ 16) : Ok (t.with_ { c with weight := w }) :=
  ht.same (d := { c with weight := w }) hc rfl ⟨(ht.cok c hc).lt, h1, h2, (ht.cok c hc).cost, (ht.cok c hc).ids, (ht.cok c hc).at_⟩ rfl rfl rfl rfl rfl rfl rfl rfl rfl
theorem answer_mid (id n : Nat) : Ok0 ({ t with answered := n }.with_ { c with working := c.working.filter fun w => w.1 != id, heard := t.now }) := by
  have co := ht.cok c hc
  refine ht.toOk0.put hc (d := { c with working := c.working.filter fun w => w.1 != id, heard := t.now }) rfl ⟨co.lt, co.w1, co.w16, co.cost, ?_, co.at_⟩ ht.rnd (fun _ _ => Iff.rfl) (fun z => ht.win c hc z) (fun z q => ht.crd c hc z q) rfl rfl rfl rfl ?_
  · have := nodup_filter_ids (p := fun _ => true) (q := fun w => w.1 != id) co.ids
    rwa [List.filter_eq_self.mpr fun _ _ => rfl] at this
  · have := List.length_filter_le (fun w : Nat × Nat => w.1 != id) c.working
    show t.asked + (c.waiting.length + (c.working.filter fun w => w.1 != id).length) ≤ t.asked + (c.waiting.length + c.working.length)
    omega
theorem drop_mid (id : Nat) : Ok0 (t.with_ { heardNow t c with working := c.working.filter (fun w => w.1 != id), waiting := c.waiting.filter fun q => q.id != id }) := by
  have co := ht.cok c hc
  refine ht.toOk0.put hc (d := { heardNow t c with working := c.working.filter (fun w => w.1 != id), waiting := c.waiting.filter fun q => q.id != id }) rfl ⟨co.lt, co.w1, co.w16, fun q hq => co.cost q (List.mem_filter.mp hq).1, nodup_filter_ids co.ids, co.at_⟩ ht.rnd (fun _ _ => Iff.rfl) (fun z => ht.win c hc fun q => z ?_) (fun z q => ht.crd c hc ?_ q) rfl rfl rfl rfl ?_
  · show c.waiting.filter _ = []
    rw [q]; rfl
  · cases z2 : c.waiting with
    | nil => rfl
    | cons a l => exact absurd (ht.win c hc (by rw [z2]; simp)) q
  · have := List.length_filter_le (fun w : Req => w.id != id) c.waiting
    have := List.length_filter_le (fun w : Nat × Nat => w.1 != id) c.working
    show t.asked + ((c.waiting.filter fun q => q.id != id).length + (c.working.filter fun w => w.1 != id).length) ≤ t.asked + (c.waiting.length + c.working.length)
    omega
end
theorem drop_work {c : Conn} (h : (c.waiting.map (·.id) ++ c.working.map (·.1)).Nodup) {id : Nat} (hw : id ∈ c.working.map (·.1)) : c.waiting.filter (fun q => q.id != id) = c.waiting := by
  rw [List.filter_eq_self]
  intro q hq
  rw [bne_iff_ne]
  intro e
  exact (List.nodup_append.mp h).2.2 q.id (List.mem_map_of_mem hq) id hw e
theorem drop_wait {c : Conn} {id : Nat} (hw : id ∉ c.working.map (·.1)) : c.working.filter (fun w => w.1 != id) = c.working := by
  rw [List.filter_eq_self]
  intro q hq
  rw [bne_iff_ne]
  intro e
  exact hw (by rw [← e]; exact List.mem_map_of_mem hq)
theorem any_work (c : Conn) (id : Nat) : (c.working.any fun w => w.1 == id) = decide (id ∈ c.working.map (·.1)) := by
  rw [Bool.eq_iff_iff, List.any_eq_true, decide_eq_true_iff, List.mem_map]
  constructor
  · rintro ⟨w, hw, e⟩; exact ⟨w, hw, by simpa using e⟩
  · rintro ⟨w, hw, e⟩; exact ⟨w, hw, by simpa using e⟩
theorem any_wait (c : Conn) (id : Nat) : (c.waiting.any fun q => q.id == id) = decide (id ∈ c.waiting.map (·.id)) := by
  rw [Bool.eq_iff_iff, List.any_eq_true, decide_eq_true_iff, List.mem_map]
  constructor
  · rintro ⟨w, hw, e⟩; exact ⟨w, hw, by simpa using e⟩
  · rintro ⟨w, hw, e⟩; exact ⟨w, hw, by simpa using e⟩
end Fd
end
section
namespace Fd
open Sw55
def whyOf (r : Rules) (t : Server) (c : Conn) : Nat := if t.ends.isSome = true then 3 else if 0 < r.rate ∧ c.filled r t.now < 1000 then 2 else if r.wait ≤ c.waiting.length ∧ ¬ (t.working < r.work ∧ t.row = []) then 1 else 0
def toldC (r : Rules) (t : Server) (c : Conn) : Conn := if whyOf r t c = 2 then { c with level := c.filled r t.now, levelAt := t.now } else c
def takenC (r : Rules) (t : Server) (c : Conn) (q : Req) : Conn := { c with waiting := c.waiting ++ [q], level := if 0 < r.rate then c.filled r t.now - 1000 else c.level, levelAt := if 0 < r.rate then t.now else c.levelAt }
def takenS (t : Server) (c : Conn) : Server := { t with asked := t.asked + 1, row := if c.waiting.isEmpty = true then t.row ++ [c.number] else t.row }
def askF (k id cost : Nat) (b : Bytes) (r : Rules) (t : Server) (c0 : Conn) : Int × Does :=
  let c := heardNow t c0
  if c.has id = true then (-3, done t) else
    let level := c.filled r t.now
    if t.ends.isSome = true then (3, ({ t with refused := t.refused + 1 }.with_ c, [.tell k id 3]))
    else if 0 < r.rate ∧ level < 1000 then (2, ({ t with refused := t.refused + 1 }.with_ { c with level := level, levelAt := t.now }, [.tell k id 2]))
    else if r.wait ≤ c.waiting.length ∧ ¬ (t.working < r.work ∧ t.row = []) then (1, ({ t with refused := t.refused + 1 }.with_ c, [.tell k id 1]))
    else (0, done ({ t with asked := t.asked + 1, row := if c.waiting.isEmpty = true then t.row ++ [k] else t.row }.with_ { c with waiting := c.waiting ++ [(⟨id, cost, b, t.now⟩ : Req)], level := if 0 < r.rate then level - 1000 else c.level, levelAt := if 0 < r.rate then t.now else c.levelAt }))
theorem asks_bad {s : Server} {k id cost n : Nat} {b : Bytes} (h : 2 ^ 32 ≤ id ∨ within cost 1 65535 = false ∨ 65536 < b.length) : Sw55.step s (.asks k id cost n b) = says s (-1) := by
  unfold Sw55.step
  dsimp only
  rw [if_pos h]
theorem asks_eq {s : Server} {k id cost n : Nat} {b : Bytes} (h : ¬ (2 ^ 32 ≤ id ∨ within cost 1 65535 = false ∨ 65536 < b.length)) : Sw55.step s (.asks k id cost n b) = ofConn s k n (askF k id cost b) := by
  unfold Sw55.step
  dsimp only
  rw [if_neg h]
  rfl
section
variable {k id cost : Nat} {b : Bytes} {r : Rules} {t : Server} {c : Conn}
theorem askF_has (h : (heardNow t c).has id = true) : askF k id cost b r t c = (-3, done t) := by
  unfold askF
  dsimp only
  rw [if_pos h]
theorem askF_told (h : ¬ (heardNow t c).has id = true) (hw : whyOf r t (heardNow t c) ≠ 0) :
    askF k id cost b r t c = (((whyOf r t (heardNow t c) : Nat) : Int), ({ t with refused := t.refused + 1 }.with_ (toldC r t (heardNow t c)), [.tell k id (whyOf r t (heardNow t c))])) := by
  unfold askF
  dsimp only
  rw [if_neg h]
  by_cases h1 : t.ends.isSome = true
  · have e : whyOf r t (heardNow t c) = 3 := by unfold whyOf; rw [if_pos h1]
    have e2 : toldC r t (heardNow t c) = heardNow t c := by unfold toldC; rw [e, if_neg (by decide)]
    rw [if_pos h1, e2, e]
    rfl
  · rw [if_neg h1]
    by_cases h2 : 0 < r.rate ∧ (heardNow t c).filled r t.now < 1000
    · have e : whyOf r t (heardNow t c) = 2 := by unfold whyOf; rw [if_neg h1, if_pos h2]
      have e2 : toldC r t (heardNow t c) = { heardNow t c with level := (heardNow t c).filled r t.now, levelAt := t.now } := by unfold toldC; rw [e, if_pos rfl]
      rw [if_pos h2, e2, e]
      rfl
    · rw [if_neg h2]
      by_cases h3 : r.wait ≤ (heardNow t c).waiting.length ∧ ¬ (t.working < r.work ∧ t.row = [])
      · have e : whyOf r t (heardNow t c) = 1 := by unfold whyOf; rw [if_neg h1, if_neg h2, if_pos h3]
        have e2 : toldC r t (heardNow t c) = heardNow t c := by unfold toldC; rw [e, if_neg (by decide)]
        rw [if_pos h3, e2, e]
        rfl
      · exfalso
        apply hw
        unfold whyOf
        rw [if_neg h1, if_neg h2, if_neg h3]
theorem askF_taken (h : ¬ (heardNow t c).has id = true) (hw : whyOf r t (heardNow t c) = 0) (hk : c.number = k) :
    askF k id cost b r t c = (0, done ((takenS t (heardNow t c)).with_ (takenC r t (heardNow t c) ⟨id, cost, b, t.now⟩))) := by
  unfold whyOf at hw
  unfold askF
  dsimp only
  rw [if_neg h]
  by_cases h1 : t.ends.isSome = true
  · rw [if_pos h1] at hw; cases hw
  · rw [if_neg h1] at hw ⊢
    by_cases h2 : 0 < r.rate ∧ (heardNow t c).filled r t.now < 1000
    · rw [if_pos h2] at hw; cases hw
    · rw [if_neg h2] at hw ⊢
      by_cases h3 : r.wait ≤ (heardNow t c).waiting.length ∧ ¬ (t.working < r.work ∧ t.row = [])
      · rw [if_pos h3] at hw; cases hw
      · rw [if_neg h3, ← hk]
        rfl
variable (ht : Ok t) (hc : c ∈ t.conns)
include ht hc
theorem told_mid (n : Nat) : Ok ({ t with refused := n }.with_ (toldC r t (heardNow t c))) := by
  have co := ht.cok c hc
  unfold toldC
  split
  · exact ht.same (t' := ({ t with refused := n } : Server).with_ { heardNow t c with level := (heardNow t c).filled r t.now, levelAt := t.now }) hc (d := { heardNow t c with level := (heardNow t c).filled r t.now, levelAt := t.now }) rfl ⟨co.lt, co.w1, co.w16, co.cost, co.ids, Nat.le_refl _⟩ rfl rfl rfl rfl rfl rfl rfl rfl rfl
  · exact ht.same (t' := ({ t with refused := n } : Server).with_ (heardNow t c)) hc (d := heardNow t c) rfl (cok_heard co) rfl rfl rfl rfl rfl rfl rfl rfl rfl
theorem taken_mid (hhas : ¬ (heardNow t c).has id = true) (hcost : 1 ≤ cost ∧ cost ≤ 65535) : Ok ((takenS t (heardNow t c)).with_ (takenC r t (heardNow t c) ⟨id, cost, b, t.now⟩)) := by
  have co := ht.cok c hc
  have hhas' : ¬ id ∈ c.waiting.map (·.id) ++ c.working.map (·.1) := fun z => hhas ((has_iff c id).mpr z)
  refine ht.put hc (s' := (takenS t (heardNow t c)).with_ (takenC r t (heardNow t c) ⟨id, cost, b, t.now⟩)) (d := takenC r t (heardNow t c) ⟨id, cost, b, t.now⟩) rfl ⟨co.lt, co.w1, co.w16, ?_, ?_, ?_⟩ ?_ ?_ ?_ ?_ rfl rfl rfl rfl ?_
  · intro q hq
    rcases List.mem_append.mp hq with hq | hq
    · exact co.cost q hq
    · simp at hq; subst hq; exact hcost
  · show ((c.waiting ++ [(⟨id, cost, b, t.now⟩ : Req)]).map (·.id) ++ c.working.map (·.1)).Nodup
    have e : ((c.waiting ++ [(⟨id, cost, b, t.now⟩ : Req)]).map (·.id) ++ c.working.map (·.1)).Perm (id :: (c.waiting.map (·.id) ++ c.working.map (·.1))) := by
      rw [List.map_append, List.append_assoc]
      exact List.perm_middle
    exact e.nodup_iff.mpr (List.nodup_cons.mpr ⟨hhas', co.ids⟩)
  · show (if 0 < r.rate then t.now else c.levelAt) ≤ t.now
    split
    · exact Nat.le_refl _
    · exact co.at_
  · show (if c.waiting.isEmpty = true then t.row ++ [c.number] else t.row).Nodup
    split
    · rename_i z
      refine nodup_snoc.mpr (List.nodup_cons.mpr ⟨fun q => ?_, ht.rnd⟩)
      exact ht.row c hc q (by simpa using z)
    · exact ht.rnd
  · intro j hj
    show j ∈ (if c.waiting.isEmpty = true then t.row ++ [c.number] else t.row) ↔ _
    split
    · simp [hj]
    · exact Iff.rfl
  · show c.waiting ++ [(⟨id, cost, b, t.now⟩ : Req)] ≠ [] ↔ c.number ∈ (if c.waiting.isEmpty = true then t.row ++ [c.number] else t.row)
    constructor
    · intro _
      split
      · simp
      · rename_i z
        exact ht.win c hc (by simpa using z)
    · intro _; simp
  · intro z
    have z' : c.waiting ++ [(⟨id, cost, b, t.now⟩ : Req)] = [] := z
    simp at z'
  · show t.asked + ((c.waiting ++ [(⟨id, cost, b, t.now⟩ : Req)]).length + c.working.length) ≤ t.asked + 1 + (c.waiting.length + c.working.length)
    simp
    omega
end
end Fd
end
section
namespace L2
open PySem PySem.Spec PyProof.Rows
abbrev Key := Sum Int Str
def keyIs : Key → Value → Bool
  | .inl k, v => Value.isInt k v
  | .inr x, v => Value.isStrOf x v
def keyH (w : World) : Key → Int
  | .inl k => hashInt k
  | .inr x => hashStr w x
theorem keyIs_shape : ∀ {k : Key} {v : Value}, keyIs k v = true → (∃ i t, k = Sum.inl i ∧ v = Value.int i t) ∨ (∃ x t, k = Sum.inr x ∧ v = Value.str x t)
  | .inl i, v, h => by
    obtain ⟨t, e⟩ := Value.isInt_shape (k := i) (v := v) h
    exact .inl ⟨i, t, rfl, e⟩
  | .inr x, v, h => by
    obtain ⟨t, e⟩ := Value.isStrOf_shape (x := x) (v := v) h
    exact .inr ⟨x, t, rfl, e⟩
theorem keyIs_int (i : Int) (t : Tok) : keyIs (.inl i) (.int i t) = true := by simp [keyIs, Value.isInt]
theorem keyIs_str (x : Str) (t : Tok) : keyIs (.inr x) (.str x t) = true := by simp [keyIs, Value.isStrOf]
theorem key_ll (a b : Int) : decide ((Sum.inl a : Key) = Sum.inl b) = (a == b) := by
  by_cases e : a = b
  · subst e; simp
  · have h : ¬ (Sum.inl a : Key) = Sum.inl b := fun q => e (Sum.inl.inj q)
    rw [decide_eq_false h]
    exact (beq_eq_false_iff_ne.mpr e).symm
theorem key_rr (a b : Str) : decide ((Sum.inr a : Key) = Sum.inr b) = decide (a = b) := by
  by_cases e : a = b
  · subst e; simp
  · have h : ¬ (Sum.inr a : Key) = Sum.inr b := fun q => e (Sum.inr.inj q)
    rw [decide_eq_false h, decide_eq_false e]
theorem key_lr (a : Int) (b : Str) : decide ((Sum.inl a : Key) = Sum.inr b) = false := decide_eq_false (fun q => nomatch q)
theorem key_rl (a : Str) (b : Int) : decide ((Sum.inr a : Key) = Sum.inl b) = false := decide_eq_false (fun q => nomatch q)
def mixKind (prog : Program) (w : World) : PySem.KeyKind prog w Key where
  is := keyIs
  hash := keyH w
  inj := fun v a b ha hb => by
    rcases keyIs_shape ha with ⟨i, t, rfl, rfl⟩ | ⟨x, t, rfl, rfl⟩
    · rcases keyIs_shape hb with ⟨j, u, rfl, e⟩ | ⟨y, u, rfl, e⟩
      · injection e with e1 _; rw [e1]
      · exact nomatch e
    · rcases keyIs_shape hb with ⟨j, u, rfl, e⟩ | ⟨y, u, rfl, e⟩
      · exact nomatch e
      · injection e with e1 _; rw [e1]
  byValue := fun k v h => by
    rcases keyIs_shape h with ⟨i, t, rfl, rfl⟩ | ⟨x, t, rfl, rfl⟩ <;> rfl
  pyHash := fun hv h => by
    rcases keyIs_shape hv with ⟨i, t, rfl, rfl⟩ | ⟨x, t, rfl, rfl⟩
    · exact wpAny_pyHash_int h
    · exact wpAny_pyHash_str h
  eqBool := fun hu hv h => by
    rcases keyIs_shape hu with ⟨i, t, rfl, rfl⟩ | ⟨x, t, rfl, rfl⟩
    · rcases keyIs_shape hv with ⟨j, u, rfl, rfl⟩ | ⟨y, u, rfl, rfl⟩
      · rw [key_ll] at h; exact wpAny_eqBool_int h
      · rw [key_lr] at h; exact SeqAt.EqAt.int_str i t y u _ _ _ _ h
    · rcases keyIs_shape hv with ⟨j, u, rfl, rfl⟩ | ⟨y, u, rfl, rfl⟩
      · rw [key_rl] at h; exact SeqAt.EqAt.str_int x t j u _ _ _ _ h
      · rw [key_rr] at h; exact wpAny_eqBool_str h
  «strs» := fun k x t v h => by
    rcases keyIs_shape h with ⟨i, u, rfl, e⟩ | ⟨y, u, rfl, e⟩
    · exact nomatch e
    · injection e with e1 _
      subst e1
      cases v <;> rfl
theorem mixKind_int (prog : Program) (w : World) (i : Int) (t : Tok) : (mixKind prog w).is (.inl i) (.int i t) = true := keyIs_int i t
theorem mixKind_str (prog : Program) (w : World) (x : Str) (t : Tok) : (mixKind prog w).is (.inr x) (.str x t) = true := keyIs_str x t
end L2
namespace L2
open PySem PySem.Spec PyProof.Rows
inductive V where
  | non | bl (b : Bool) | int (i : Int) | str (x : Str) | byt (b : Array UInt8) | flt (b : UInt64) | ref (a : Addr) | ty (n : String)
  deriving DecidableEq
def RelV : V → Value → Prop
  | .non, u => u = Value.none
  | .bl b, u => u = Value.bool b
  | .int i, u => ∃ t, u = Value.int i t
  | .str x, u => ∃ t, u = Value.str x t
  | .byt b, u => ∃ t, u = Value.bytes b t
  | .flt b, u => ∃ t, u = Value.float b t
  | .ref a, u => u = Value.ref a
  | .ty n, u => u = Value.type n
abbrev Vals : List V → List Value → Prop := Paired RelV
theorem Vals.length {xs : List V} {us : List Value} (r : Vals xs us) : xs.length = us.length := Paired.length r
theorem Vals.get : ∀ {xs : List V} {us : List Value} {i : Nat} {x : V}, Vals xs us → xs[i]? = some x → ∃ u, us[i]? = some u ∧ RelV x u
  | _, _, _, _, .nil, e => by simp at e
  | _, _, 0, _, .cons r _, e => by simp at e; subst e; exact ⟨_, rfl, r⟩
  | _, _, i + 1, x, .cons _ t, e => by
    obtain ⟨u, h1, h2⟩ := Vals.get (i := i) (x := x) t (by simpa using e)
    exact ⟨u, by simpa using h1, h2⟩
theorem Vals.set {x : V} {u : Value} (r : RelV x u) : ∀ {xs : List V} {us : List Value} (i : Nat), Vals xs us → Vals (xs.set i x) (us.set i u)
  | _, _, _, .nil => .nil
  | _, _, 0, .cons _ t => .cons r t
  | _, _, i + 1, .cons q t => .cons q (Vals.set r i t)
theorem Vals.append : ∀ {xs ys : List V} {us ws : List Value}, Vals xs us → Vals ys ws → Vals (xs ++ ys) (us ++ ws)
  | _, _, _, _, .nil, s => s
  | _, _, _, _, .cons r t, s => .cons r (Vals.append t s)
theorem Vals.take : ∀ {xs : List V} {us : List Value} (n : Nat), Vals xs us → Vals (xs.take n) (us.take n)
  | _, _, 0, _ => .nil
  | _, _, _ + 1, .nil => .nil
  | _, _, n + 1, .cons r t => .cons r (Vals.take n t)
theorem Vals.drop : ∀ {xs : List V} {us : List Value} (n : Nat), Vals xs us → Vals (xs.drop n) (us.drop n)
  | _, _, 0, r => r
  | _, _, _ + 1, .nil => .nil
  | _, _, n + 1, .cons _ t => Vals.drop n t
def RelO : Option V → Option Value → Prop
  | some v, some u => RelV v u
  | none, none => True
  | _, _ => False
def KV {κ : Type} : List (κ × V) → List (κ × Value) → Prop := Paired fun (p : κ × V) (q : κ × Value) => p.1 = q.1 ∧ RelV p.2 q.2
def kV : Key → V
  | .inl i => .int i
  | .inr x => .str x
inductive HO where
  | lst (xs : List V)
  | tup (xs : List V)
  | dK (kvs : List (Key × V)) | dT (kvs : List (List Key × V))
  | set (S : Int → Bool) (n : Nat)
  | ins (C dx : Addr) (fs : List (Str × V))
  | own (x : Addr)
  | xd (fs : List (Str × V))
  | met (f x : Addr)
  | rng (lo hi : Int)
  | frz (o : Obj) (u : HO)
  | tbl (ps : Array Value)
  | ext (φ : Heap → Prop)
abbrev Hp := Addr → Option HO
def upd (H : Hp) (a : Addr) (o : HO) : Hp := fun b => if b = a then some o else H b
theorem upd_same {H : Hp} {a : Addr} {o : HO} : upd H a o a = some o := by unfold upd; rw [if_pos rfl]
theorem upd_ne {H : Hp} {a b : Addr} {o : HO} (h : b ≠ a) : upd H a o b = H b := by unfold upd; rw [if_neg h]
theorem upd_upd {H : Hp} {a : Addr} {o u : HO} : upd (upd H a o) a u = upd H a u := by
  funext b; unfold upd; split <;> rfl
theorem ne_of {H : Hp} {a b : Addr} {o u : HO} (h : H a = some o) (h' : H b = some u) (d : o ≠ u) : a ≠ b := by
  intro e; subst e; rw [h] at h'; exact d (Option.some.inj h')
theorem ne_of_none {H : Hp} {a b : Addr} {o : HO} (h : H a = some o) (h' : H b = none) : a ≠ b := by
  intro e; subst e; rw [h] at h'; cases h'
section
variable (P : Program) (w : World)
def ObjOk (H : Hp) (h : Heap) (a : Addr) : HO → Prop
  | .lst xs => xs.length ≤ sizeLine ∧ ∃ (its : List Value) (n : Nat), Vals xs its ∧ h.get? a = some { cls := .type "list", data := .seq its.toArray n }
  | .tup xs => xs.length ≤ sizeLine ∧ ∃ its : List Value, Vals xs its ∧ IsTup h a its.toArray
  | .dK kvs => kvs.length ≤ sizeLine ∧ (a == sysModules) = false ∧ ∃ vs, KV kvs vs ∧ h.DictOf (mixKind P w) a vs
  | .dT kvs => kvs.length ≤ sizeLine ∧ (a == sysModules) = false ∧ ∃ xs : List (List Key × Addr × Value),
      Paired (fun (p : List Key × V) (q : List Key × Addr × Value) => p.1 = q.1 ∧ H q.2.1 = some (.tup (p.1.map kV)) ∧ RelV p.2 q.2.2) kvs xs ∧
      ∃ o es ep, h.get? a = some o ∧ o.ExactDict ∧ o.data = .dict es ep ∧ es.toList = xs.map (entryOfKey (tupleKind (mixKind P w))) ∧ (xs.map (·.1)).Nodup
  | .set S n => h.SetOf (intKind P w) a S n
  | .ins C dx fs => H dx = some (.own a) ∧ fs.length ≤ 1000 ∧ dx ≠ a ∧ h.get? a = some (PySem.W.instObj C dx) ∧
      ∃ mA, h.Ns1 dx mA ∧ (∀ f, RelO (fs.lookup f) (mA f)) ∧ PySem.Within mA (fs.map (·.1))
  | .own _ => ∃ o, h.get? a = some o
  | .xd fs => ∃ mA, h.Ns1 a mA ∧ ∀ f, RelO (fs.lookup f) (mA f)
  | .rng lo hi => ∃ t u v, h.get? a = some { cls := .type "range", data := .fields #[.int lo t, .int hi u, .int 1 v] }
  | .frz o u => h.get? a = some o ∧ ObjOk H h a u
  | .tbl ps => h.get? a = some { cls := .none, data := .fields ps }
  | .met f x => h.get? a = some (PySem.W.methodObj (.ref f) (.ref x))
  | .ext φ => φ h ∧ (∃ o, h.get? a = some o) ∧ ∀ h1 h2 : Heap, φ h1 → (∀ o, h1.get? a = some o → h2.get? a = some o) → φ h2
def HOk (H : Hp) (h : Heap) : Prop := ∀ a o, H a = some o → ObjOk P w H h a o
end
section
variable {P : Program} {w : World} {H H' : Hp} {h h' : Heap} {a : Addr} {o : HO}
theorem ObjOk.lt (x : ObjOk P w H h a o) : a < h.objs.size := by
  cases o with
  | lst xs => obtain ⟨_, _, _, _, e⟩ := x; exact Heap.lt_size e
  | tup xs => obtain ⟨_, _, _, p⟩ := x; exact p.lt
  | dK kvs => obtain ⟨_, _, _, _, o, _, _, e, _⟩ := x; exact Heap.lt_size e
  | dT kvs => obtain ⟨_, _, _, _, o, _, _, e, _⟩ := x; exact Heap.lt_size e
  | set S n => obtain ⟨o, _, _, _, e, _⟩ := x; exact Heap.lt_size e
  | ins C dx fs => obtain ⟨_, _, _, e, _⟩ := x; exact Heap.lt_size e
  | own y => obtain ⟨_, e⟩ := x; exact Heap.lt_size e
  | xd fs => obtain ⟨_, ⟨_, _, _, e, _⟩, _⟩ := x; exact Heap.lt_size e
  | rng lo hi => obtain ⟨_, _, _, e⟩ := x; exact Heap.lt_size e
  | frz ob u => obtain ⟨e, _⟩ := x; exact Heap.lt_size e
  | tbl ps => exact Heap.lt_size (show h.get? a = some _ from x)
  | met f y => exact Heap.lt_size (show h.get? a = some _ from x)
  | ext φ => obtain ⟨_, ⟨_, e⟩, _⟩ := x; exact Heap.lt_size e
theorem Paired.mapP {α β : Type} {F G : α → β → Prop} : ∀ {l₁ : List α} {l₂ : List β}, Paired F l₁ l₂ → (∀ a b, F a b → G a b) → Paired G l₁ l₂
  | _, _, .nil, _ => .nil
  | _, _, .cons r t, f => .cons (f _ _ r) (Paired.mapP t f)
theorem ObjOk.stay (x : ObjOk P w H h a o) (k : ∀ b u, (b = a ∨ H b = some (.own a)) → h.get? b = some u → h'.get? b = some u)
    (ho : ∀ b, H b = some (.own a) → H' b = some (.own a)) (ht : ∀ b xs, H b = some (.tup xs) → H' b = some (.tup xs)) : ObjOk P w H' h' a o := by
  induction o with
  | lst xs => obtain ⟨z, its, n, r, e⟩ := x; exact ⟨z, its, n, r, k _ _ (.inl rfl) e⟩
  | tup xs => obtain ⟨z, its, r, ob, e, c⟩ := x; exact ⟨z, its, r, ob, k _ _ (.inl rfl) e, c⟩
  | dK kvs => obtain ⟨z, y, vs, r, ob, es, ep, e, c⟩ := x; exact ⟨z, y, vs, r, ob, es, ep, k _ _ (.inl rfl) e, c⟩
  | dT kvs =>
    obtain ⟨z, y, xs, r, ob, es, ep, e, c⟩ := x
    exact ⟨z, y, xs, Paired.mapP r fun p q z => ⟨z.1, ht _ _ z.2.1, z.2.2⟩, ob, es, ep, k _ _ (.inl rfl) e, c⟩
  | set S n => obtain ⟨ob, es, ep, t, e, c⟩ := x; exact ⟨ob, es, ep, t, k _ _ (.inl rfl) e, c⟩
  | ins C dx fs =>
    obtain ⟨d, z, ne, e, mA, ⟨od, es, ep, e2, c⟩, r⟩ := x
    exact ⟨ho _ d, z, ne, k _ _ (.inl rfl) e, mA, ⟨od, es, ep, k _ _ (.inr d) e2, c⟩, r⟩
  | own y => obtain ⟨ob, e⟩ := x; exact ⟨ob, k _ _ (.inl rfl) e⟩
  | xd fs => obtain ⟨mA, ⟨od, es, ep, e, c⟩, r⟩ := x; exact ⟨mA, ⟨od, es, ep, k _ _ (.inl rfl) e, c⟩, r⟩
  | rng lo hi => obtain ⟨t, u, v, e⟩ := x; exact ⟨t, u, v, k _ _ (.inl rfl) e⟩
  | frz ob u ih => obtain ⟨e, q⟩ := x; exact ⟨k _ _ (.inl rfl) e, ih q⟩
  | tbl ps =>
    have e : h.get? a = some { cls := .none, data := .fields ps } := x
    show h'.get? a = some { cls := .none, data := .fields ps }
    exact k a _ (.inl rfl) e
  | met f y =>
    have e : h.get? a = some (PySem.W.methodObj (.ref f) (.ref y)) := x
    show h'.get? a = some (PySem.W.methodObj (.ref f) (.ref y))
    exact k a _ (.inl rfl) e
  | ext φ => obtain ⟨p, ⟨o, e⟩, st⟩ := x; exact ⟨st _ _ p fun o q => k _ _ (.inl rfl) q, ⟨o, k _ _ (.inl rfl) e⟩, st⟩
theorem HOk.lt (x : HOk P w H h) (e : H a = some o) : a < h.objs.size := (x a o e).lt
theorem HOk.fresh (x : HOk P w H h) (e : h.objs.size ≤ a) : H a = none := by
  cases q : H a with
  | none => rfl
  | some u => exact absurd (Nat.lt_of_lt_of_le (x.lt q) e) (Nat.lt_irrefl _)
theorem HOk.kept (x : HOk P w H h) (k : ∀ b u, h.get? b = some u → h'.get? b = some u) : HOk P w H h' := fun a o e =>
  (x a o e).stay (fun b u _ q => k b u q) (fun _ q => q) fun _ _ q => q
theorem HOk.laid (x : HOk P w H h) (k : ∀ b u, h.get? b = some u → h'.get? b = some u) (hp : h.objs.size ≤ a) (new : ObjOk P w (upd H a o) h' a o) : HOk P w (upd H a o) h' := fun b u e => by
  have hn := x.fresh hp
  by_cases hb : b = a
  · subst hb; rw [upd_same] at e; cases e; exact new
  · rw [upd_ne hb] at e
    exact (x b u e).stay (fun c v _ q => k c v q) (fun c q => by rw [upd_ne (ne_of_none q hn)]; exact q) fun c xs q => by rw [upd_ne (ne_of_none q hn)]; exact q
end
def Rd (H : Hp) (a : Addr) (u : HO) : Prop := H a = some u ∨ ∃ o, H a = some (.frz o u)
theorem Rd.ok {P : Program} {w : World} {H : Hp} {h : Heap} {a : Addr} {u : HO} (r : Rd H a u) (x : HOk P w H h) : ObjOk P w H h a u := by
  rcases r with r | ⟨o, r⟩
  · exact x a u r
  · obtain ⟨_, q⟩ := x a _ r
    exact q
def Mut : Option HO → Prop
  | some (.lst _) => True
  | some (.dK _) => True
  | some (.dT _) => True
  | some (.set _ _) => True
  | some (.ins _ _ _) => True
  | some (.ext _) => True
  | _ => False
section
variable {P : Program} {w : World} {H : Hp} {h h' : Heap} {x e : Addr} {o' : HO}
theorem HOk.write (ok : HOk P w H h) (mu : Mut (H x)) (he : e = x ∨ H e = some (.own x)) (k : ∀ b u, b ≠ e → h.get? b = some u → h'.get? b = some u) (heo : ∃ u, h'.get? e = some u)
    (new : ObjOk P w (upd H x o') h' x o') : HOk P w (upd H x o') h' := fun b u q => by
  have nown : ∀ c y, H c = some (.own y) → c ≠ x := fun c y r z => by subst z; rw [r] at mu; exact mu
  have ntup : ∀ c xs, H c = some (.tup xs) → c ≠ x := fun c xs r z => by subst z; rw [r] at mu; exact mu
  by_cases hb : b = x
  · subst hb; rw [upd_same] at q; cases q; exact new
  · rw [upd_ne hb] at q
    by_cases hbe : b = e
    · have q' : H b = some (.own x) := by
        rcases he with z | z
        · exact absurd (hbe.trans z) hb
        · rw [hbe]; exact z
      rw [q] at q'; cases q'
      obtain ⟨v, hv⟩ := heo
      exact ⟨v, by rw [hbe]; exact hv⟩
    · refine (ok b u q).stay (fun c v hc r => k c v ?_ r) (fun c r => by rw [upd_ne (nown c b r)]; exact r) fun c xs r => by rw [upd_ne (ntup c xs r)]; exact r
      rcases hc with rfl | hc
      · exact hbe
      · rintro rfl
        rcases he with z | z
        · exact nown c b hc z
        · rw [hc] at z; cases z; exact hb rfl
end
structure Un (fs ex : List Addr) (H H' : Hp) (h h' : Heap) : Prop where
  keep : ∀ b o, h.get? b = some o → H b = none → b ∉ fs → b ∉ ex → h'.get? b = some o
  slot : ∀ b o, h.get? b = some o → H b = none → b ∈ fs → b ∉ ex → ∃ sl, h'.get? b = some { o with slots := sl }
  free : ∀ b o, h.get? b = some o → H b = none → b ∉ ex → H' b = none
  there : ∀ b o, h.get? b = some o → b ∉ ex → ∃ o', h'.get? b = some o'
  tups : ∀ b xs, H b = some (.tup xs) → H' b = some (.tup xs)
  frzs : ∀ b o u, H b = some (.frz o u) → H' b = some (.frz o u)
  tbls : ∀ b ps, H b = some (.tbl ps) → ∃ more, H' b = some (.tbl (ps ++ more))
section
variable {fs fs' ex ex' : List Addr} {H H1 H2 : Hp} {h h1 h2 h' : Heap} {a x e : Addr} {o : HO}
theorem Un.any (u : Un fs ex H H1 h h1) {b : Addr} {ob : Obj} (q : h.get? b = some ob) (n : H b = none) (hx : b ∉ ex) : ∃ sl, h1.get? b = some { ob with slots := sl } := by
  by_cases hb : b ∈ fs
  · exact u.slot b ob q n hb hx
  · exact ⟨ob.slots, u.keep b ob q n hb hx⟩
theorem Un.kept (k : ∀ b u, h.get? b = some u → h'.get? b = some u) : Un fs ex H H h h' :=
  ⟨fun b ob q _ _ _ => k b ob q, fun b ob q _ _ _ => ⟨ob.slots, k b ob q⟩, fun _ _ _ n _ => n, fun b ob q _ => ⟨ob, k b ob q⟩, fun _ _ q => q, fun _ _ _ q => q, fun _ ps q => ⟨#[], by rw [q]; simp⟩⟩
theorem Un.refl : Un fs ex H H h h := Un.kept fun _ _ q => q
theorem Un.laid (k : ∀ b u, h.get? b = some u → h'.get? b = some u) (hp : h.objs.size ≤ a) (hn : H a = none) : Un fs ex H (upd H a o) h h' where
  keep := fun b u q _ _ _ => k b u q
  slot := fun b u q _ _ _ => ⟨u.slots, k b u q⟩
  free := fun b u q n _ => by rw [upd_ne (Nat.ne_of_lt (Nat.lt_of_lt_of_le (Heap.lt_size q) hp))]; exact n
  there := fun b u q _ => ⟨u, k b u q⟩
  tups := fun b xs q => by rw [upd_ne (ne_of_none q hn)]; exact q
  frzs := fun b u xs q => by rw [upd_ne (ne_of_none q hn)]; exact q
  tbls := fun b ps q => ⟨#[], by rw [upd_ne (ne_of_none q hn), q]; simp⟩
theorem Un.write (mu : Mut (H x)) (he : e = x ∨ H e = some (.own x)) (k : ∀ b u, b ≠ e → h.get? b = some u → h'.get? b = some u) (heo : ∃ u, h'.get? e = some u) : Un fs ex H (upd H x o) h h' := by
  have hx : ∀ b, H b = none → b ≠ x := fun b n z => by subst z; rw [n] at mu; exact mu
  have hb : ∀ b, H b = none → b ≠ e := fun b n z => by
    subst z
    rcases he with r | r
    · exact hx b n r
    · rw [n] at r; cases r
  have hm : ∀ b u, H b = some u → ¬ Mut (some u) → b ≠ x := fun b u q nm z => by subst z; rw [q] at mu; exact nm mu
  refine ⟨fun b u q n _ _ => k b u (hb b n) q, fun b u q n _ _ => ⟨u.slots, k b u (hb b n) q⟩, fun b u q n _ => by rw [upd_ne (hx b n)]; exact n, fun b u q _ => ?_,
    fun b xs q => by rw [upd_ne (hm b _ q fun z => z)]; exact q, fun b u xs q => by rw [upd_ne (hm b _ q fun z => z)]; exact q, fun b ps q => ⟨#[], by rw [upd_ne (hm b _ q fun z => z), q]; simp⟩⟩
  by_cases hbe : b = e
  · subst hbe; exact heo
  · exact ⟨u, k b u hbe q⟩
end
def trk (h : Heap) (H : Hp) : List Addr := (List.range h.objs.size).filter fun a => (H a).isSome
def hidT (h : Heap) (H : Hp) : Heap := PySem.W.hideAll h (trk h H)
theorem hidT_size (h : Heap) (H : Hp) : (hidT h H).objs.size = h.objs.size := PySem.W.hideAll_size _ _
theorem hidT_get {h : Heap} {H : Hp} {b : Addr} {o : Obj} (e : h.get? b = some o) (n : H b = none) : (hidT h H).get? b = some o :=
  PySem.W.hideAll_get _ e fun hm => by
    have q : (H b).isSome = true := (List.mem_filter.mp hm).2
    rw [n] at q; simp at q
theorem of_hidT {h : Heap} {H : Hp} {b : Addr} {o : Obj} (e : (hidT h H).get? b = some o) : h.get? b = some o ∧ H b = none := by
  have e' : h.get? b = some o := PySem.W.of_hideAll (trk h H) e
  refine ⟨e', ?_⟩
  cases q : H b with
  | none => rfl
  | some x =>
    have hm : b ∈ trk h H := List.mem_filter.mpr ⟨List.mem_range.mpr (Heap.lt_size e'), by simp [q]⟩
    have z : (hidT h H).get? b = none := PySem.W.hideAll_none (trk h H) hm
    rw [z] at e; cases e
def allNews (g h : Heap) (L : Addr) : List (Addr × Obj) := (List.range h.objs.size).filterMap fun a => if a = L ∨ (g.get? a).isSome = true then none else (h.get? a).map fun o => (a, o)
def rest (g h : Heap) (L d : Addr) : List (Addr × Obj) := (allNews g h L).filter fun p => decide (p.1 ≠ d)
end L2
namespace L2
open PySem PySem.Spec PyProof.Rows
structure Mod (K : PySem.W.Frag) (mg : Str → Option Value) (base : Heap) : Prop where
  kin : K.In base
  glob : base.Ns mainGlobals mg
  blt : ∃ mb, base.Ns builtinsNs mb ∧ ∀ x : Str, x ≠ "__name__" → mb x = bootBuiltins x
  nolimit : base.NoLimit
structure Cx where
  prog : Program
  w : World
  K : PySem.W.Frag
  mg : Str → Option Value
  base : Heap
  A : Around
  N : List Str
  s₀ : Shared
  H₀ : Hp
  env : Env
  outer : List Env
  stack : List Env
  ex : List Addr
  fn : Str → Bool
  calm : Bool
  pn : List (Addr × Obj)
  xe : Value → Shared → Prop
def frs (l : List Env) : List Addr := l.filterMap (·.frame)
abbrev Cx.fs (X : Cx) : List Addr := frs X.outer
def Vis (sc : Scope) (x : Str) : Prop := sc.names.lookup x = some .local ∨ sc.names.lookup x = some .cell ∨ sc.names.lookup x = some .free
def Loc (sc : Scope) (x : Str) : Prop := sc.names.lookup x = some .local ∨ sc.names.lookup x = some .cell
def Look (env : Env) (h : Heap) (m : Str → Option Value) (x : Str) (u : Value) : Prop :=
  (env.kindOf x = some .local ∧ m x = some u) ∨ ((env.kindOf x = some .cell ∨ env.kindOf x = some .free) ∧ ∃ c, env.cells.lookup x = some c ∧ h.IsCell c (some u))
structure Cx.Ok (X : Cx) : Prop where
  mod : Mod X.K X.mg X.base
  kind : X.env.scope.kind = .function
  glob : X.env.globals = mainGlobals
  blt : X.env.builtins = builtinsNs
  above : X.s₀.heap.objs.size ≤ X.env.locals
  inj : ∀ x y c, X.env.cells.lookup x = some c → X.env.cells.lookup y = some c → x = y
  has : ∀ x, (X.env.kindOf x = some .cell ∨ X.env.kindOf x = some .free) → ∃ c, X.env.cells.lookup x = some c
  cab : ∀ x c, X.fn x = true → X.env.cells.lookup x = some c → X.s₀.heap.objs.size ≤ c
  hd : X.calm = true → X.A.handled = none
  frames : X.A.frames = some X.stack
  stk : X.stack = X.outer ∨ (X.stack = X.env :: X.outer ∧ X.env.frame = some X.env.locals)
  exf : ∀ b ∈ X.ex, b ≠ X.env.locals ∧ ∀ x c, X.env.cells.lookup x = some c → c ≠ b
  bs : ∀ b o, X.base.get? b = some o → X.s₀.heap.get? b = some o ∧ X.H₀ b = none
  bsz : X.base.objs.size ≤ X.s₀.heap.objs.size
  noex : ∀ b o, X.base.get? b = some o → b ∉ X.ex
  exfs : ∀ b ∈ X.ex, b ∉ X.fs
  funs : X.s₀.heap.FunFrames X.base X.outer
  frf : ∀ b ∈ X.fs, X.H₀ b = none
structure Inv (X : Cx) (pins : List (Addr × Obj)) (σ : List (Option V)) (H : Hp) (s : Shared) : Prop where
  ok : X.Ok
  os : s.os = X.s₀.os
  bare : AllBare s.gens
  base : Un X.fs X.ex X.H₀ H X.s₀.heap s.heap
  loc : ∃ m, s.heap.Ns X.env.locals m ∧ ∀ (i : Nat) (x : Str) (v : V), X.N[i]? = some x → σ[i]? = some (some v) → Vis X.env.scope x → ∃ u, RelV v u ∧ Look X.env s.heap m x u
  cell : ∀ x c, X.env.cells.lookup x = some c → ∃ v, s.heap.IsCell c v
  free : H X.env.locals = none
  freeC : ∀ x c, X.env.cells.lookup x = some c → H c = none
  pin : ∀ p ∈ X.pn ++ pins, s.heap.get? p.1 = some p.2 ∧ H p.1 = none ∧ p.1 ≠ X.env.locals ∧ p.1 ∉ X.fs ∧ ∀ v, p.2.data ≠ .cell v
  hok : HOk X.prog X.w H s.heap
  len : σ.length = X.N.length
section
variable {X : Cx} {pins : List (Addr × Obj)} {σ : List (Option V)} {H H' : Hp} {s : Shared} {h' : Heap}
theorem Cx.Ok.nofr (ok : X.Ok) {b : Addr} {o : Obj} (e : X.base.get? b = some o) : b ∉ X.fs := fun hb => by
  have := (ok.funs.mem hb).1
  rw [e] at this; cases this
theorem Inv.bs (I : Inv X pins σ H s) : ∀ b o, X.base.get? b = some o → s.heap.get? b = some o ∧ H b = none := fun b o e =>
  ⟨I.base.keep b o (I.ok.bs b o e).1 (I.ok.bs b o e).2 (I.ok.nofr e) (I.ok.noex b o e), I.base.free b o (I.ok.bs b o e).1 (I.ok.bs b o e).2 (I.ok.noex b o e)⟩
theorem Inv.bk (I : Inv X pins σ H s) : ∀ b o, X.base.get? b = some o → s.heap.get? b = some o := fun b o e => (I.bs b o e).1
theorem Inv.mod (I : Inv X pins σ H s) : Mod X.K X.mg X.base := I.ok.mod
theorem Inv.kIn (I : Inv X pins σ H s) : X.K.In s.heap := I.ok.mod.kin.keeps I.bk
theorem Inv.lt (I : Inv X pins σ H s) : X.env.locals < s.heap.objs.size := let ⟨_, hn, _⟩ := I.loc; hn.lt
theorem Inv.sz (I : Inv X pins σ H s) : X.s₀.heap.objs.size ≤ s.heap.objs.size := Nat.le_trans I.ok.above (Nat.le_of_lt I.lt)
theorem Inv.nofs (I : Inv X pins σ H s) {a : Addr} (h : s.heap.objs.size ≤ a) : a ∉ X.fs := fun hb => by
  obtain ⟨_, o, ho, _⟩ := I.ok.funs.mem hb
  exact absurd (Nat.lt_of_lt_of_le (Heap.lt_size ho) (Nat.le_trans I.sz h)) (Nat.lt_irrefl _)
theorem Inv.cne (I : Inv X pins σ H s) : ∀ x c, X.env.cells.lookup x = some c → c ≠ X.env.locals := fun x c e z => by
  obtain ⟨v, o, ho, hd⟩ := I.cell x c e
  obtain ⟨m, ⟨o', es, ep, ho', hd', _⟩, _⟩ := I.loc
  rw [z, ho'] at ho; cases ho; rw [hd'] at hd; cases hd
theorem Inv.funs (I : Inv X pins σ H s) : s.heap.FunFrames X.base X.outer := by
  have all : ∀ (l : List Env), (∀ b ∈ frs l, b ∈ X.fs) → X.s₀.heap.FunFrames X.base l → s.heap.FunFrames X.base l := by
    intro l
    induction l with
    | nil => intro _ _; trivial
    | cons env r ih =>
      intro hs hl
      obtain ⟨hk, ⟨L, o, hf, hn, ho, hd⟩, hr⟩ := hl
      have hL : L ∈ X.fs := hs L (by unfold frs; rw [List.filterMap_cons, hf]; exact List.mem_cons_self)
      obtain ⟨sl, e⟩ := I.base.slot L o ho (I.ok.frf L hL) hL fun z => I.ok.exfs L z hL
      exact ⟨hk, ⟨L, _, hf, hn, e, hd⟩, ih (fun b hb => hs b (by unfold frs; rw [List.filterMap_cons, hf]; exact List.mem_cons_of_mem _ hb)) hr⟩
  exact all X.outer (fun _ hb => hb) I.ok.funs
theorem Inv.stack (I : Inv X pins σ H s) : s.heap.FunFrames X.base X.stack := by
  rcases I.ok.stk with e | ⟨e, hf⟩
  · rw [e]; exact I.funs
  · rw [e]
    obtain ⟨m, hn, _⟩ := I.loc
    refine .cons (by rw [I.ok.kind]; decide) hf hn ?_ I.funs
    exact Heap.get?_none_of_le (Nat.le_trans I.ok.bsz I.ok.above)
theorem Inv.stkSub (I : Inv X pins σ H s) : ∀ b ∈ frs X.stack, b ∈ X.env.locals :: X.fs := fun b hb => by
  rcases I.ok.stk with e | ⟨e, hf⟩
  · rw [e] at hb; exact List.mem_cons_of_mem _ hb
  · rw [e] at hb
    unfold frs at hb
    rw [List.filterMap_cons, hf] at hb
    exact hb
theorem Inv.stkFree (I : Inv X pins σ H s) : ∀ b ∈ frs X.stack, H b = none := fun b hb => by
  rcases List.mem_cons.mp (I.stkSub b hb) with e | hb
  · rw [e]; exact I.free
  · obtain ⟨_, o, ho, _⟩ := I.ok.funs.mem hb
    exact I.base.free b o ho (I.ok.frf b hb) fun z => I.ok.exfs b z hb
theorem Inv.step {g' : Array GenState} {t' : Nat} {d' : Drawn} {ch : List Addr} (I : Inv X pins σ H s)
    (hch : ∀ b ∈ ch, (b ∈ X.ex ∨ X.s₀.heap.objs.size ≤ b) ∧ b ≠ X.env.locals ∧ (∀ x c, X.env.cells.lookup x = some c → c ≠ b) ∧ ∀ p ∈ X.pn ++ pins, p.1 ≠ b)
    (keep : ∀ b o, b ≠ X.env.locals → b ∉ X.fs → b ∉ ch → s.heap.get? b = some o → H b = none → h'.get? b = some o)
    (slot : ∀ b o, b ≠ X.env.locals → b ∈ X.fs → b ∉ ch → s.heap.get? b = some o → H b = none → ∃ sl, h'.get? b = some { o with slots := sl }) (free : ∀ b o, b ∉ ch → s.heap.get? b = some o → H b = none → H' b = none)
    (there : ∀ b o, b ∉ ch → s.heap.get? b = some o → ∃ o', h'.get? b = some o')
    (tups : ∀ b xs, H b = some (.tup xs) → H' b = some (.tup xs)) (frzs : ∀ b o u, H b = some (.frz o u) → H' b = some (.frz o u)) (tbls : ∀ b ps, H b = some (.tbl ps) → ∃ more, H' b = some (.tbl (ps ++ more)))
    (ns : ∀ m, s.heap.Ns X.env.locals m → h'.Ns X.env.locals m) (hok : HOk X.prog X.w H' h') (hg : AllBare g') :
    Inv X pins σ H' { s with heap := h', gens := g', drawn := d', toks := t' } := by
  have neL : ∀ b o, X.s₀.heap.get? b = some o → b ≠ X.env.locals := fun b o e => Nat.ne_of_lt (Nat.lt_of_lt_of_le (Heap.lt_size e) I.ok.above)
  have neC : ∀ b o, X.s₀.heap.get? b = some o → b ∉ X.ex → b ∉ ch := fun b o e hx hb => by
    rcases (hch b hb).1 with z | z
    · exact hx z
    · exact absurd (Nat.lt_of_lt_of_le (Heap.lt_size e) z) (Nat.lt_irrefl _)
  have cellK : ∀ x c, X.env.cells.lookup x = some c → ∀ v, s.heap.IsCell c v → h'.IsCell c v := fun x c e v ⟨o, ho, hd⟩ => by
    have nch : c ∉ ch := fun z => (hch c z).2.2.1 x c e rfl
    by_cases hc : c ∈ X.fs
    · obtain ⟨sl, q⟩ := slot c o (I.cne x c e) hc nch ho (I.freeC x c e)
      exact ⟨_, q, hd⟩
    · exact ⟨o, keep c o (I.cne x c e) hc nch ho (I.freeC x c e), hd⟩
  refine ⟨I.ok, I.os, hg, ⟨fun b o e n hb hx => ?_, fun b o e n hb hx => ?_, fun b o e n hx => ?_, fun b o e hx => ?_, fun b xs e => tups b xs (I.base.tups b xs e), fun b o xs e => frzs b o xs (I.base.frzs b o xs e), fun b ps e => ?_⟩, ?_, fun x c e => ?_, ?_, fun x c e => ?_, fun p hp => ?_, hok, I.len⟩
  · exact keep b o (neL b o e) hb (neC b o e hx) (I.base.keep b o e n hb hx) (I.base.free b o e n hx)
  · obtain ⟨sl, e1⟩ := I.base.slot b o e n hb hx
    obtain ⟨sl', e2⟩ := slot b _ (neL b o e) hb (neC b o e hx) e1 (I.base.free b o e n hx)
    exact ⟨sl', e2⟩
  · obtain ⟨o', e1⟩ := I.base.there b o e hx
    exact free b o' (neC b o e hx) e1 (I.base.free b o e n hx)
  · obtain ⟨o', e1⟩ := I.base.there b o e hx
    exact there b o' (neC b o e hx) e1
  · obtain ⟨m1, e1⟩ := I.base.tbls b ps e
    obtain ⟨m2, e2⟩ := tbls b _ e1
    exact ⟨m1 ++ m2, by rw [e2, Array.append_assoc]⟩
  · obtain ⟨m, hn, hl⟩ := I.loc
    refine ⟨m, ns m hn, fun i x v e1 e2 e3 => ?_⟩
    obtain ⟨u, r, l⟩ := hl i x v e1 e2 e3
    refine ⟨u, r, ?_⟩
    rcases l with l | ⟨k, c, e, z⟩
    · exact .inl l
    · exact .inr ⟨k, c, e, cellK x c e _ z⟩
  · obtain ⟨v, z⟩ := I.cell x c e
    exact ⟨v, cellK x c e v z⟩
  · obtain ⟨m, ⟨o, _, _, ho, _⟩, _⟩ := I.loc
    exact free _ o (fun z => (hch _ z).2.1 rfl) ho I.free
  · obtain ⟨v, o, ho, hd⟩ := I.cell x c e
    exact free c o (fun z => (hch c z).2.2.1 x c e rfl) ho (I.freeC x c e)
  · obtain ⟨e, n, ne, nf, d⟩ := I.pin p hp
    have nch : p.1 ∉ ch := fun z => (hch p.1 z).2.2.2 p hp rfl
    exact ⟨keep p.1 p.2 ne nf nch e n, free p.1 p.2 nch e n, ne, nf, d⟩
theorem Inv.un {t' : Nat} (I : Inv X pins σ H s) (u : Un X.fs [] H H' s.heap h') (hok : HOk X.prog X.w H' h') : Inv X pins σ H' { s with heap := h', toks := t' } := by
  obtain ⟨m, ⟨o, es, ep, ho, r⟩, _⟩ := id I.loc
  obtain ⟨sl, hL⟩ := u.any ho I.free (by simp)
  exact I.step (g' := s.gens) (d' := s.drawn) (ch := []) (fun _ z => nomatch z) (fun b o _ hb _ e n => u.keep b o e n hb (by simp)) (fun b o _ hb _ e n => u.slot b o e n hb (by simp)) (fun b o _ e n => u.free b o e n (by simp)) (fun b o _ e => u.there b o e (by simp)) u.tups u.frzs u.tbls (fun m' hm => by
    obtain ⟨o', es', ep', ho', r'⟩ := hm
    rw [ho] at ho'; cases ho'
    exact ⟨_, es', ep', hL, r'⟩) hok I.bare
theorem Inv.call {g' : Array GenState} {t' : Nat} {d' : Drawn} {ch : List Addr} (I : Inv X pins σ H s) (u : Un (frs X.stack) ch H H' s.heap h') (hok : HOk X.prog X.w H' h') (hg : AllBare g')
    (hch : ∀ b ∈ ch, (b ∈ X.ex ∨ X.s₀.heap.objs.size ≤ b) ∧ b ≠ X.env.locals ∧ (∀ x c, X.env.cells.lookup x = some c → c ≠ b) ∧ ∀ p ∈ X.pn ++ pins, p.1 ≠ b) :
    Inv X pins σ H' { s with heap := h', gens := g', drawn := d', toks := t' } := by
  obtain ⟨m, ⟨o, es, ep, ho, r⟩, _⟩ := id I.loc
  obtain ⟨sl, hL⟩ := u.any ho I.free fun z => (hch _ z).2.1 rfl
  exact I.step (ch := ch) hch (fun b o hL hb hc e n => u.keep b o e n (fun z => (List.mem_cons.mp (I.stkSub b z)).elim hL hb) hc) (fun b o _ _ hc e n => u.any e n hc) (fun b o hc e n => u.free b o e n hc) (fun b o hc e => u.there b o e hc) u.tups u.frzs u.tbls (fun m' hm => by
    obtain ⟨o', es', ep', ho', r'⟩ := hm
    rw [ho] at ho'; cases ho'
    exact ⟨_, es', ep', hL, r'⟩) hok hg
theorem Inv.turned {t' : Nat} {it : Addr} (I : Inv X pins σ H s) (k : ∀ b o, b ≠ it → s.heap.get? b = some o → h'.get? b = some o) (hn : H it = none) (hL : it ≠ X.env.locals)
    (h1 : it ∈ X.ex ∨ X.s₀.heap.objs.size ≤ it) (h2 : ∀ x c, X.env.cells.lookup x = some c → c ≠ it) (h3 : ∀ p ∈ X.pn ++ pins, p.1 ≠ it) : Inv X pins σ H { s with heap := h', toks := t' } := by
  have nit : ∀ b u, H b = some u → b ≠ it := fun b u e z => by rw [z, hn] at e; cases e
  refine I.step (g' := s.gens) (d' := s.drawn) (ch := [it]) (fun b hb => ?_) (fun b o _ _ hc e _ => k b o (fun z => hc (by simp [z])) e) (fun b o _ _ hc e _ => ⟨o.slots, k b o (fun z => hc (by simp [z])) e⟩) (fun _ _ _ _ n => n)
    (fun b o hc e => ⟨o, k b o (fun z => hc (by simp [z])) e⟩) (fun _ _ e => e) (fun _ _ _ e => e) (fun b ps e => ⟨#[], by rw [e]; simp⟩) (fun m hm => ?_) (fun b u e => ?_) I.bare
  · have e : b = it := by simpa using hb
    subst e
    exact ⟨h1, hL, h2, h3⟩
  · obtain ⟨o, es, ep, ho, r⟩ := hm
    exact ⟨o, es, ep, k _ o (Ne.symm hL) ho, r⟩
  · refine (I.hok b u e).stay (fun c v hc q => k c v ?_ q) (fun _ q => q) fun _ _ q => q
    rcases hc with z | z
    · rw [z]; exact nit b u e
    · exact nit c _ z
theorem Inv.tok (I : Inv X pins σ H s) (t : Nat) : Inv X pins σ H { s with toks := t } := I.un (h' := s.heap) (t' := t) Un.refl I.hok
theorem Inv.kept {t' : Nat} (I : Inv X pins σ H s) (k : ∀ b u, s.heap.get? b = some u → h'.get? b = some u) : Inv X pins σ H { s with heap := h', toks := t' } := I.un (Un.kept k) (I.hok.kept k)
theorem Inv.laid {a : Addr} {o : HO} {t' : Nat} (I : Inv X pins σ H s) (k : ∀ b u, s.heap.get? b = some u → h'.get? b = some u) (hp : s.heap.objs.size ≤ a) (new : ObjOk X.prog X.w (upd H a o) h' a o) :
    Inv X pins σ (upd H a o) { s with heap := h', toks := t' } := I.un (Un.laid k hp (I.hok.fresh hp)) (I.hok.laid k hp new)
theorem Inv.write {x e : Addr} {o : HO} {t' : Nat} (I : Inv X pins σ H s) (mu : Mut (H x)) (he : e = x ∨ H e = some (.own x)) (k : ∀ b u, b ≠ e → s.heap.get? b = some u → h'.get? b = some u) (heo : ∃ u, h'.get? e = some u)
    (new : ObjOk X.prog X.w (upd H x o) h' x o) : Inv X pins σ (upd H x o) { s with heap := h', toks := t' } := I.un (Un.write mu he k heo) (I.hok.write mu he k heo new)
theorem Inv.weak {σ' : List (Option V)} (I : Inv X pins σ H s) (hl : σ'.length = σ.length) (w : ∀ (i : Nat) v, σ'[i]? = some (some v) → σ[i]? = some (some v)) : Inv X pins σ' H s :=
  ⟨I.ok, I.os, I.bare, I.base, let ⟨m, hn, hl'⟩ := I.loc; ⟨m, hn, fun i x v e1 e2 e3 => hl' i x v e1 (w i v e2) e3⟩, I.cell, I.free, I.freeC, I.pin, I.hok, hl.trans I.len⟩
theorem Inv.pins_of {pins' : List (Addr × Obj)} (I : Inv X pins σ H s) (h : ∀ p ∈ pins', s.heap.get? p.1 = some p.2 ∧ H p.1 = none ∧ p.1 ≠ X.env.locals ∧ p.1 ∉ X.fs ∧ ∀ v, p.2.data ≠ .cell v) : Inv X pins' σ H s :=
  ⟨I.ok, I.os, I.bare, I.base, I.loc, I.cell, I.free, I.freeC, fun p hp => (List.mem_append.mp hp).elim (fun z => I.pin p (List.mem_append_left _ z)) (h p), I.hok, I.len⟩
theorem nodup_ix {N : List Str} (hN : N.Nodup) {i j : Nat} {x : Str} (a : N[i]? = some x) (b : N[j]? = some x) : i = j := by
  obtain ⟨h1, e1⟩ := List.getElem?_eq_some_iff.mp a
  obtain ⟨h2, e2⟩ := List.getElem?_eq_some_iff.mp b
  exact (List.getElem_inj hN).mp (e1.trans e2.symm)
theorem store_ok2 {M : Model} {A : Around} {E : Value → Shared → Prop} {i : Nat} {x : Str} {v : V} {u : Value} {Q : Unit → Shared → Prop} (I : Inv X pins σ H s) (hN : X.N.Nodup) (hi : X.N[i]? = some x) (hx : Loc X.env.scope x) (r : RelV v u)
    (h : ∀ s', Inv X pins (σ.set i (some v)) H s' → (∃ a, Heap.SameBut a s.heap s'.heap ∧ (a = X.env.locals ∨ X.env.cells.lookup x = some a)) → Q () s') (hf : X.fn x = true ∨ X.env.scope.names.lookup x = some .local := by first | exact .inl rfl | exact .inr rfl | assumption) : wpAny M A (storeName X.env x u) Q E s := by
  obtain ⟨m, hn, hl⟩ := id I.loc
  have hcls : (X.env.scope.kind == .class || (X.env.scope.kind == .module && X.env.locals != X.env.globals)) = false := by rw [I.ok.kind]; rfl
  have hiσ : i < σ.length := by rw [I.len]; exact (List.getElem?_eq_some_iff.mp hi).1
  have cne := I.cne
  have tracked : ∀ {a : Addr} {h' : Heap}, (∃ o, s.heap.get? a = some o ∧ H a = none) → Heap.SameBut a s.heap h' → HOk X.prog X.w H h' := fun {a h'} ha hs b ob e => by
    obtain ⟨_, _, hfree⟩ := ha
    refine (I.hok b ob e).stay (fun c w' hc q => (hs.2 c ?_).trans q) (fun _ q => q) fun _ _ q => q
    rintro rfl
    rcases hc with rfl | hc
    · rw [hfree] at e; cases e
    · rw [hfree] at hc; cases hc
  rcases hx with hk | hk
  · refine wpAny_storeName_local hk hn (fun h' hn' hs => ?_) hcls
    obtain ⟨oL, _, _, hoL, _⟩ := id hn
    refine h _ ⟨I.ok, I.os, I.bare, ⟨fun b o e n hb hx => ?_, fun b o e n hb hx => ?_, I.base.free, fun b o e hx => ?_, I.base.tups, I.base.frzs, I.base.tbls⟩, ⟨_, hn', fun j y v' e1 e2 e3 => ?_⟩, fun y c e => ?_, I.free, I.freeC, fun p hp => ?_, tracked ⟨oL, hoL, I.free⟩ hs, by simpa using I.len⟩ ⟨_, hs, .inl rfl⟩
    · exact (hs.2 b (Nat.ne_of_lt (Nat.lt_of_lt_of_le (Heap.lt_size e) I.ok.above))).trans (I.base.keep b o e n hb hx)
    · obtain ⟨sl, e1⟩ := I.base.slot b o e n hb hx
      exact ⟨sl, (hs.2 b (Nat.ne_of_lt (Nat.lt_of_lt_of_le (Heap.lt_size e) I.ok.above))).trans e1⟩
    · obtain ⟨o', e1⟩ := I.base.there b o e hx
      exact ⟨o', (hs.2 b (Nat.ne_of_lt (Nat.lt_of_lt_of_le (Heap.lt_size e) I.ok.above))).trans e1⟩
    · by_cases hj : j = i
      · subst hj
        rw [hi] at e1; cases e1
        rw [List.getElem?_set_self hiσ] at e2
        cases e2
        exact ⟨u, r, .inl ⟨hk, by simp⟩⟩
      · rw [List.getElem?_set_ne (Ne.symm hj)] at e2
        obtain ⟨u', r', q⟩ := hl j y v' e1 e2 e3
        refine ⟨u', r', ?_⟩
        rcases q with ⟨k, e⟩ | ⟨k, c, e, z⟩
        · refine .inl ⟨k, ?_⟩
          have : y ≠ x := fun e => hj (nodup_ix hN e1 (e ▸ hi))
          simp [this, e]
        · exact .inr ⟨k, c, e, z.sameBut hs (cne y c e)⟩
    · obtain ⟨w', z⟩ := I.cell y c e
      exact ⟨w', z.sameBut hs (cne y c e)⟩
    · obtain ⟨e, n, ne, nf, d⟩ := I.pin p hp
      exact ⟨(hs.2 p.1 ne).trans e, n, ne, nf, d⟩
  · have hfn : X.fn x = true := by
      rcases hf with z | z
      · exact z
      · rw [z] at hk; cases hk
    obtain ⟨c, hc⟩ := I.ok.has x (.inl hk)
    obtain ⟨w', z⟩ := I.cell x c hc
    refine wpAny_storeName_cell I.ok.kind hk hc z (fun h' hc' hs => ?_)
    obtain ⟨oc, hoc, hocd⟩ := id z
    refine h { s with heap := h' } ⟨I.ok, I.os, I.bare, ⟨fun b o e n hb hx => ?_, fun b o e n hb hx => ?_, I.base.free, fun b o e hx => ?_, I.base.tups, I.base.frzs, I.base.tbls⟩, ⟨m, hn.sameBut hs (Ne.symm (cne x c hc)), fun j y v' e1 e2 e3 => ?_⟩, fun y c' e => ?_, I.free, I.freeC, fun p hp => ?_, tracked ⟨oc, hoc, I.freeC x c hc⟩ hs, by simpa using I.len⟩ ⟨c, hs, .inr hc⟩
    · exact (hs.2 b (Nat.ne_of_lt (Nat.lt_of_lt_of_le (Heap.lt_size e) (I.ok.cab x c hfn hc)))).trans (I.base.keep b o e n hb hx)
    · obtain ⟨sl, e1⟩ := I.base.slot b o e n hb hx
      exact ⟨sl, (hs.2 b (Nat.ne_of_lt (Nat.lt_of_lt_of_le (Heap.lt_size e) (I.ok.cab x c hfn hc)))).trans e1⟩
    · obtain ⟨o', e1⟩ := I.base.there b o e hx
      exact ⟨o', (hs.2 b (Nat.ne_of_lt (Nat.lt_of_lt_of_le (Heap.lt_size e) (I.ok.cab x c hfn hc)))).trans e1⟩
    · by_cases hj : j = i
      · subst hj
        rw [hi] at e1; cases e1
        rw [List.getElem?_set_self hiσ] at e2
        cases e2
        exact ⟨u, r, .inr ⟨.inl hk, c, hc, hc'⟩⟩
      · rw [List.getElem?_set_ne (Ne.symm hj)] at e2
        obtain ⟨u', r', q⟩ := hl j y v' e1 e2 e3
        refine ⟨u', r', ?_⟩
        rcases q with q | ⟨k, c', e, z'⟩
        · exact .inl q
        · refine .inr ⟨k, c', e, z'.sameBut hs ?_⟩
          rintro rfl
          exact hj (nodup_ix hN e1 (I.ok.inj _ _ _ e hc ▸ hi))
    · by_cases hcc : c' = c
      · subst hcc; exact ⟨_, hc'⟩
      · obtain ⟨w2, z2⟩ := I.cell y c' e
        exact ⟨w2, z2.sameBut hs hcc⟩
    · obtain ⟨e, n, ne, nf, d⟩ := I.pin p hp
      refine ⟨(hs.2 p.1 ?_).trans e, n, ne, nf, d⟩
      intro q
      rw [q, hoc] at e
      have q' : oc = p.2 := Option.some.inj e
      exact d w' (by rw [← q']; exact hocd)
theorem store_ok {M : Model} {A : Around} {E : Value → Shared → Prop} {i : Nat} {x : Str} {v : V} {u : Value} {Q : Unit → Shared → Prop} (I : Inv X pins σ H s) (hN : X.N.Nodup) (hi : X.N[i]? = some x) (hx : Loc X.env.scope x) (r : RelV v u)
    (h : ∀ s', Inv X pins (σ.set i (some v)) H s' → Q () s') (hf : X.fn x = true ∨ X.env.scope.names.lookup x = some .local := by first | exact .inl rfl | exact .inr rfl | assumption) : wpAny M A (storeName X.env x u) Q E s :=
  store_ok2 I hN hi hx r (fun s' I' _ => h s' I') hf
theorem Inv.call' {s' : Shared} {ch : List Addr} (I : Inv X pins σ H s) (ho : s'.os = s.os) (u : Un (frs X.stack) ch H H' s.heap s'.heap) (hok : HOk X.prog X.w H' s'.heap) (hg : AllBare s'.gens)
    (hch : ∀ b ∈ ch, (b ∈ X.ex ∨ X.s₀.heap.objs.size ≤ b) ∧ b ≠ X.env.locals ∧ (∀ x c, X.env.cells.lookup x = some c → c ≠ b) ∧ ∀ p ∈ X.pn ++ pins, p.1 ≠ b) : Inv X pins σ H' s' := by
  obtain ⟨h', g', d', t', o'⟩ := s'
  have e : o' = s.os := ho
  subst e
  exact I.call (g' := g') (t' := t') (d' := d') u hok hg hch
end
abbrev XK := Value → Option Addr → Hp → Prop
abbrev St := List (Option V)
abbrev VK := V → Hp → Prop
abbrev TE := St → Hp → VK → Prop
abbrev TT := St → Hp → (Bool → Hp → Prop) → Prop
abbrev TA := St → Hp → (List V → Hp → Prop) → Prop
structure Ends where
  nx : St → Hp → Prop
  rt : VK
  bk : St → Hp → Prop := fun _ _ => False
  ct : St → Hp → Prop := fun _ _ => False
abbrev TS := Ends → St → Hp → Prop
def EP (X : Cx) (pins : List (Addr × Obj)) (σ : St) (Q : VK) (u : Value) (s' : Shared) : Prop := ∃ v H', Inv X pins σ H' s' ∧ RelV v u ∧ Q v H'
def TP (X : Cx) (pins : List (Addr × Obj)) (σ : St) (Q : Bool → Hp → Prop) (b : Bool) (s' : Shared) : Prop := ∃ H', Inv X pins σ H' s' ∧ Q b H'
def AP (X : Cx) (pins : List (Addr × Obj)) (σ : St) (Q : List V → Hp → Prop) (us : List Value) (s' : Shared) : Prop := ∃ vs H', Inv X pins σ H' s' ∧ Vals vs us ∧ Q vs H'
def SP (X : Cx) (pins : List (Addr × Obj)) (D : Ends) (f : Flow) (s' : Shared) : Prop :=
  match f with
  | .next => ∃ σ' H', Inv X pins σ' H' s' ∧ D.nx σ' H'
  | .brk => ∃ σ' H', Inv X pins σ' H' s' ∧ D.bk σ' H'
  | .cont => ∃ σ' H', Inv X pins σ' H' s' ∧ D.ct σ' H'
  | .ret u => ∃ v σ' H', Inv X pins σ' H' s' ∧ RelV v u ∧ D.rt v H'
def PE (X : Cx) (e : Expr) (t : TE) : Prop :=
  ∀ (pins : List (Addr × Obj)) (s : Shared) (σ : St) (H : Hp) (Q : VK), Inv X pins σ H s → t σ H Q → wpAny (model X.prog X.w) X.A (eval e X.env) (EP X pins σ Q) X.xe s
def PT (X : Cx) (e : Expr) (t : TT) : Prop :=
  ∀ (pins : List (Addr × Obj)) (s : Shared) (σ : St) (H : Hp) (Q : Bool → Hp → Prop), Inv X pins σ H s → t σ H Q → wpAny (model X.prog X.w) X.A (isTrue e X.env (eval e X.env)) (TP X pins σ Q) X.xe s
def PW (X : Cx) (e : Expr) (t : TT) : Prop :=
  ∀ (whole : Sem Value) (pins : List (Addr × Obj)) (s : Shared) (σ : St) (H : Hp) (Q : Bool → Hp → Prop), Inv X pins σ H s → t σ H Q → wpAny (model X.prog X.w) X.A (isTrue e X.env whole) (TP X pins σ Q) X.xe s
theorem PW.pt {X : Cx} {e : Expr} {t : TT} (h : PW X e t) : PT X e t := h _
def PA (X : Cx) (es : List Expr) (t : TA) : Prop :=
  ∀ (pos : Pos) (pins : List (Addr × Obj)) (s : Shared) (σ : St) (H : Hp) (Q : List V → Hp → Prop), Inv X pins σ H s → t σ H Q → wpAny (model X.prog X.w) X.A (spliced (backTo pos (starEach es X.env))) (AP X pins σ Q) X.xe s
def PS (X : Cx) (st : Stmt) (t : TS) : Prop :=
  ∀ (pins : List (Addr × Obj)) (s : Shared) (σ : St) (H : Hp) (D : Ends), Inv X pins σ H s → t D σ H → wpAny (model X.prog X.w) X.A (exec st X.env) (SP X pins D) X.xe s
def PSs (X : Cx) (st : List Stmt) (t : TS) : Prop :=
  ∀ (pins : List (Addr × Obj)) (s : Shared) (σ : St) (H : Hp) (D : Ends), Inv X pins σ H s → t D σ H → wpAny (model X.prog X.w) X.A (execs st X.env) (SP X pins D) X.xe s
theorem thn {α : Type} {t : Sem α} {Q Q' : α → Shared → Prop} {M : Model} {A : Around} {E : Value → Shared → Prop} {s : Shared} (h : wpAny M A t Q E s) (hQ : ∀ a s, Q a s → Q' a s) : wpAny M A t Q' E s := wpAny_mono h hQ fun _ _ x => x
end L2
namespace L2
open PySem PySem.Spec PyProof.Rows
section
variable {X : Cx}
def tVar (i : Nat) : TE := fun σ H Q => ∃ v, σ[i]? = some (some v) ∧ Q v H
def tC (v : V) : TE := fun _ H Q => Q v H
theorem pe_var {i : Nat} {x : Str} {pos : Pos} (hN : X.N[i]? = some x) (hv : Vis X.env.scope x) (hd : (x == ("__debug__" : Str)) = false := by decide) (hcd : (x == ("__classdict__" : Str)) = false := by decide) : PE X (.Name x pos) (tVar i) := by
  intro pins s σ H Q I h
  obtain ⟨v, e, h⟩ := h
  obtain ⟨m, hn, hl⟩ := I.loc
  obtain ⟨u, r, l⟩ := hl i x v hN e hv
  have fin : EP X pins σ Q u s := ⟨v, H, I, r, h⟩
  rcases l with ⟨hk, hm⟩ | ⟨hk, c, hc, hcell⟩
  · exact wpAny_Name (wpAny_loadName_local I.ok.kind hk hn hm fin) hd
  · rcases hk with hk | hk
    · exact wpAny_Name (wpAny_loadName_cell I.ok.kind hk hc hcell fin) hd
    · exact wpAny_Name (wpAny_loadName_free I.ok.kind hk hc hcell fin hcd) hd
theorem pe_int {i j pos} : PE X (.Constant (.int i) j pos) (tC (.int i)) := fun _ _ _ H _ I h => wpAny_Constant_int ⟨.int i, H, I.tok _, ⟨_, rfl⟩, h⟩
theorem pe_bl {b j pos} : PE X (.Constant (.bool b) j pos) (tC (.bl b)) := fun _ _ _ H _ I h => Constant_bool ⟨.bl b, H, I, rfl, h⟩
theorem pe_non {j pos} : PE X (.Constant .none j pos) (tC .non) := fun _ _ _ H _ I h => Constant_none ⟨.non, H, I, rfl, h⟩
def Gl (X : Cx) (x : Str) : Prop := X.env.kindOf x = some .globalImplicit
theorem ld_glob {E : Value → Shared → Prop} {pins : List (Addr × Obj)} {s : Shared} {σ : St} {H : Hp} {x : Str} {u : Value} {pos : Pos} {Q : Value → Shared → Prop} (I : Inv X pins σ H s) (hg : Gl X x) (hm : X.mg x = some u) (h : Q u s)
    (hd : (x == ("__debug__" : Str)) = false := by decide) : wpAny (model X.prog X.w) X.A (eval (.Name x pos) X.env) Q E s :=
  Calls.Name_function_global I.ok.kind hg (Calls.loadGlobal_global (by rw [I.ok.glob]; exact I.mod.glob.keeps I.bk) hm h) hd
theorem ld_blt {E : Value → Shared → Prop} {pins : List (Addr × Obj)} {s : Shared} {σ : St} {H : Hp} {x : Str} {u : Value} {pos : Pos} {Q : Value → Shared → Prop} (I : Inv X pins σ H s) (hg : Gl X x) (hm : X.mg x = none) (hv : bootBuiltins x = some u) (h : Q u s)
    (hn : x ≠ "__name__" := by decide) (hd : (x == ("__debug__" : Str)) = false := by decide) : wpAny (model X.prog X.w) X.A (eval (.Name x pos) X.env) Q E s := by
  obtain ⟨mb, h1, h2⟩ := I.mod.blt
  exact Calls.Name_function_global I.ok.kind hg (Calls.loadGlobal_builtin (by rw [I.ok.glob]; exact I.mod.glob.keeps I.bk) hm (by rw [I.ok.blt]; exact h1.keeps I.bk) ((h2 x hn).trans hv) h) hd
theorem pe_glob {x : Str} {v : V} {u : Value} {pos : Pos} (hg : Gl X x) (hm : X.mg x = some u) (r : RelV v u) (hd : (x == ("__debug__" : Str)) = false := by decide) : PE X (.Name x pos) (tC v) :=
  fun _ _ _ H _ I h => ld_glob I hg hm ⟨v, H, I, r, h⟩ hd
variable {a b : Expr} {ta tb : TE} {pos : Pos}
def PC (X : Cx) (op : CmpOp) (a b : Expr) (t : TE) : Prop :=
  ∀ (pins : List (Addr × Obj)) (s : Shared) (σ : St) (H : Hp) (Q : VK), Inv X pins σ H s → t σ H Q →
    wpAny (model X.prog X.w) X.A (eval a X.env) (fun v s₁ => wpAny (model X.prog X.w) X.A (eval b X.env) (fun u s₂ => wpAny (model X.prog X.w) X.A (compareOp op v u) (EP X pins σ Q) X.xe s₂) X.xe s₁) X.xe s
theorem nobehind (b : Expr) {op : CmpOp} (h : op ≠ .In) (h2 : op ≠ .NotIn) : behindInMarks op b = false := by
  have e1 : (op == CmpOp.In) = false := by cases op <;> first | rfl | exact absurd rfl h
  have e2 : (op == CmpOp.NotIn) = false := by cases op <;> first | rfl | exact absurd rfl h2
  cases b <;> simp [behindInMarks, e1, e2]
def tIsN (ta : TE) : TE := fun σ H Q => ta σ H fun x H1 => Q (.bl (decide (x = .non))) H1
def tNotN (ta : TE) : TE := fun σ H Q => ta σ H fun x H1 => Q (.bl (!decide (x = .non))) H1
theorem RelV.none_iff {x : V} {v : Value} (r : RelV x v) : (v == Value.none) = decide (x = .non) := by
  cases x with
  | non => cases r; rfl
  | bl _ => cases r; rfl
  | int _ => obtain ⟨t, rfl⟩ := r; rfl
  | str _ => obtain ⟨t, rfl⟩ := r; rfl
  | byt _ => obtain ⟨t, rfl⟩ := r; rfl
  | flt _ => obtain ⟨t, rfl⟩ := r; rfl
  | ref _ => cases r; rfl
  | ty _ => cases r; rfl
theorem pc_isN {j pos'} (ha : PE X a ta) : PC X .Is a (.Constant .none j pos') (tIsN ta) := by
  intro pins s σ H Q I h
  refine thn (ha pins s σ H _ I h) fun v s1 ⟨x, H1, I1, r1, q1⟩ => ?_
  exact Constant_none (is_none_gen ⟨.bl _, H1, I1, by rw [r1.none_iff]; rfl, q1⟩)
theorem pc_notN {j pos'} (ha : PE X a ta) : PC X .IsNot a (.Constant .none j pos') (tNotN ta) := by
  intro pins s σ H Q I h
  refine thn (ha pins s σ H _ I h) fun v s1 ⟨x, H1, I1, r1, q1⟩ => ?_
  exact Constant_none (isnot_none_gen ⟨.bl _, H1, I1, by rw [r1.none_iff]; rfl, q1⟩)
def tB (t : TE) : TT := fun σ H Q => t σ H fun x H1 => ∃ c, x = .bl c ∧ Q c H1
theorem pe_cmp {op : CmpOp} {t : TE} (h : PC X op a b t) (h1 : behindInMarks op b = false := by first | exact nobehind _ (by decide) (by decide) | rfl) : PE X (.Compare a [op] [b] pos) t := fun pins s σ H Q I hw => wpAny_Compare1 (h pins s σ H Q I hw) h1
theorem pt_cmp {op : CmpOp} {t : TE} (h : PC X op a b t) (h1 : behindInMarks op b = false := by first | exact nobehind _ (by decide) (by decide) | rfl) : PT X (.Compare a [op] [b] pos) (tB t) := by
  intro pins s σ H Q I hw
  refine wpAny_isTrue_Compare1 (thn (h pins s σ H _ I hw) fun v s1 h1 => thn h1 fun u s2 h2 => thn h2 fun c s3 ⟨x, H1, I1, r1, q1⟩ => ?_) h1
  obtain ⟨d, rfl, q⟩ := q1
  cases r1
  exact wpAny_truthy_bool ⟨H1, I1, q⟩
theorem pt_val {e : Expr} {t : TE} (h : PE X e t) (he : ∀ whole, isTrue e X.env whole = (do let v ← whole; standAt e.pos; holding [v] (truthy v)) := by intro _; rfl) : PT X e (tB t) := by
  intro pins s σ H Q I hw
  refine isTrue_plain (thn (h pins s σ H _ I hw) fun v s1 ⟨x, H1, I1, r1, q1⟩ => ?_) (he _)
  obtain ⟨d, rfl, q⟩ := q1
  cases r1
  exact wpAny_truthy_bool ⟨H1, I1, q⟩
variable {tA tB' : TT} {rest : List Expr}
def tAnd (t u : TT) : TT := fun σ H Q => t σ H fun c H1 => if c = true then u σ H1 Q else Q false H1
def tOr (t u : TT) : TT := fun σ H Q => t σ H fun c H1 => if c = true then Q true H1 else u σ H1 Q
def tNot (t : TT) : TT := fun σ H Q => t σ H fun c H1 => Q (!c) H1
theorem pw_and1 (ha : PT X a tA) : PW X (.BoolOp .And [a] pos) tA := by
  intro wh pins s σ H Q I h
  refine isTrue_and (thn (ha pins s σ H Q I h) fun c s1 e => ?_)
  cases c with
  | true => exact isTrue_and_nil e
  | false => exact e
theorem pw_or1 (ha : PT X a tA) : PW X (.BoolOp .Or [a] pos) tA := by
  intro wh pins s σ H Q I h
  refine isTrue_or (thn (ha pins s σ H Q I h) fun c s1 e => ?_)
  cases c with
  | false => exact isTrue_or_nil e
  | true => exact e
theorem pw_and (ha : PT X a tA) (hb : PW X (.BoolOp .And (b :: rest) pos) tB') : PW X (.BoolOp .And (a :: b :: rest) pos) (tAnd tA tB') := by
  intro wh pins s σ H Q I h
  refine isTrue_and (thn (ha pins s σ H _ I h) fun c s1 ⟨H1, I1, q1⟩ => ?_)
  cases c with
  | true => exact hb wh pins s1 σ H1 Q I1 q1
  | false => exact ⟨H1, I1, q1⟩
theorem pw_or (ha : PT X a tA) (hb : PW X (.BoolOp .Or (b :: rest) pos) tB') : PW X (.BoolOp .Or (a :: b :: rest) pos) (tOr tA tB') := by
  intro wh pins s σ H Q I h
  refine isTrue_or (thn (ha pins s σ H _ I h) fun c s1 ⟨H1, I1, q1⟩ => ?_)
  cases c with
  | true => exact ⟨H1, I1, q1⟩
  | false => exact hb wh pins s1 σ H1 Q I1 q1
theorem pt_not (ha : PT X a tA) : PT X (.UnaryOp .Not a pos) (tNot tA) := by
  intro pins s σ H Q I h
  exact isTrue_not (ha pins s σ H (fun c H1 => Q (!c) H1) I h)
def tAndV (ta tb : TE) : TE := fun σ H Q => ta σ H fun x H1 => ∃ c, x = .bl c ∧ if c = true then tb σ H1 Q else Q (.bl false) H1
def tOrV (ta tb : TE) : TE := fun σ H Q => ta σ H fun x H1 => ∃ c, x = .bl c ∧ if c = true then Q (.bl true) H1 else tb σ H1 Q
theorem pe_one {op} {t : TE} (h : PE X a t) : PE X (.BoolOp op [a] pos) t := fun pins s σ H Q I hw => BoolOp_one (h pins s σ H Q I hw)
theorem pe_and (ha : PE X a ta) (hb : PE X (.BoolOp .And (b :: rest) pos) tb) : PE X (.BoolOp .And (a :: b :: rest) pos) (tAndV ta tb) := by
  intro pins s σ H Q I h
  refine BoolOp_and (thn (ha pins s σ H _ I h) fun v s1 ⟨x, H1, I1, r1, q1⟩ => ?_)
  obtain ⟨c, rfl, q1⟩ := q1
  cases r1
  refine wpAny_truthy_bool ?_
  cases c with
  | true => exact hb pins s1 σ H1 Q I1 q1
  | false => exact ⟨.bl false, H1, I1, rfl, q1⟩
theorem pe_or (ha : PE X a ta) (hb : PE X (.BoolOp .Or (b :: rest) pos) tb) : PE X (.BoolOp .Or (a :: b :: rest) pos) (tOrV ta tb) := by
  intro pins s σ H Q I h
  refine BoolOp_or (thn (ha pins s σ H _ I h) fun v s1 ⟨x, H1, I1, r1, q1⟩ => ?_)
  obtain ⟨c, rfl, q1⟩ := q1
  cases r1
  refine wpAny_truthy_bool ?_
  cases c with
  | false => exact hb pins s1 σ H1 Q I1 q1
  | true => exact ⟨.bl true, H1, I1, rfl, q1⟩
def tIf (t : TT) (ta tb : TE) : TE := fun σ H Q => t σ H fun c H1 => if c = true then ta σ H1 Q else tb σ H1 Q
theorem pe_ifExp {c : Expr} (hc : PT X c tA) (ha : PE X a ta) (hb : PE X b tb) : PE X (.IfExp c a b pos) (tIf tA ta tb) := by
  intro pins s σ H Q I h
  refine wpAny_IfExp (thn (hc pins s σ H _ I h) fun d s1 ⟨H1, I1, q1⟩ => ?_)
  cases d with
  | true => exact ha pins s1 σ H1 Q I1 q1
  | false => exact hb pins s1 σ H1 Q I1 q1
end
end L2
namespace L2
open PySem PySem.Spec PyProof.Rows
def SqL (K : PySem.W.Frag) (H : Hp) (a : Addr) (xs : List V) : Prop :=
  Rd H a (.lst xs) ∨
    ∃ (o : Obj) (its : Array Value) (n : Nat), K.lookup a = some o ∧ o.cls = .type "list" ∧ o.dict = none ∧ o.data = .seq its n ∧ its.size ≤ sizeLine ∧ Vals xs its.toList
def SqT (K : PySem.W.Frag) (H : Hp) (a : Addr) (xs : List V) : Prop :=
  Rd H a (.tup xs) ∨
    ∃ (o : Obj) (its : Array Value) (n : Nat), K.lookup a = some o ∧ o.cls = .type "tuple" ∧ o.data = .seq its n ∧ its.size ≤ sizeLine ∧ Vals xs its.toList
def absV : Value → Option V
  | .none => some .non
  | .bool b => some (.bl b)
  | .int i _ => some (.int i)
  | .str x _ => some (.str x)
  | .bytes b _ => some (.byt b)
  | .float b _ => some (.flt b)
  | .ref a => some (.ref a)
  | .type n => some (.ty n)
  | _ => none
theorem RelV.abs {x : V} {u : Value} (r : RelV x u) : absV u = some x := by
  cases x with
  | non => cases r; rfl
  | bl _ => cases r; rfl
  | int _ => obtain ⟨t, rfl⟩ := r; rfl
  | str _ => obtain ⟨t, rfl⟩ := r; rfl
  | byt _ => obtain ⟨t, rfl⟩ := r; rfl
  | flt _ => obtain ⟨t, rfl⟩ := r; rfl
  | ref _ => cases r; rfl
  | ty _ => cases r; rfl
theorem RelV.inj {x y : V} {u : Value} (r : RelV x u) (q : RelV y u) : x = y := Option.some.inj (r.abs.symm.trans q.abs)
theorem Vals.inj : ∀ {xs ys : List V} {us : List Value}, Vals xs us → Vals ys us → xs = ys
  | _, _, _, .nil, .nil => rfl
  | _, _, _, .cons r t, .cons r' t' => by rw [r.inj r', Vals.inj t t']
section
variable {X : Cx} {pins : List (Addr × Obj)} {σ : St} {H : Hp} {s : Shared} {a : Addr} {xs ys : List V}
theorem SqL.of {K : PySem.W.Frag} (h : H a = some (.lst xs)) : SqL K H a xs := .inl (.inl h)
theorem SqT.of {K : PySem.W.Frag} (h : H a = some (.tup xs)) : SqT K H a xs := .inl (.inl h)
theorem Inv.list (I : Inv X pins σ H s) (h : SqL X.K H a xs) : ∃ its : List Value, Vals xs its ∧ PlainL s.heap a its.toArray ∧ xs.length ≤ sizeLine := by
  rcases h with h | ⟨o, its, n, hk, hc, hd, hs, hz, r⟩
  · obtain ⟨z, its, n, r, e⟩ := h.ok I.hok
    exact ⟨its, r, ⟨_, n, e, rfl, rfl, rfl⟩, z⟩
  · refine ⟨its.toList, r, ⟨o, n, I.kIn a o hk, hc, hd, by simpa using hs⟩, ?_⟩
    have e := r.length
    simp only [Array.length_toList] at e
    omega
theorem Inv.tuple (I : Inv X pins σ H s) (h : SqT X.K H a xs) : ∃ its : List Value, Vals xs its ∧ IsTup s.heap a its.toArray ∧ xs.length ≤ sizeLine := by
  rcases h with h | ⟨o, its, n, hk, hc, hs, hz, r⟩
  · obtain ⟨z, its, r, p⟩ := h.ok I.hok
    exact ⟨its, r, p, z⟩
  · refine ⟨its.toList, r, ⟨o, I.kIn a o hk, hc, n, by simpa using hs⟩, ?_⟩
    have e := r.length
    simp only [Array.length_toList] at e
    omega
theorem Inv.list_inj (I : Inv X pins σ H s) (h : SqL X.K H a xs) (h' : SqL X.K H a ys) : xs = ys := by
  obtain ⟨its, r, ⟨o, n, e, _, _, d⟩, _⟩ := I.list h
  obtain ⟨its', r', ⟨o', n', e', _, _, d'⟩, _⟩ := I.list h'
  rw [e] at e'; cases e'
  rw [d] at d'
  injection d' with d1 _
  have : its = its' := by simpa using congrArg Array.toList d1
  subst this
  exact r.inj r'
end
abbrev Cx.wish (X : Cx) (E : Value → Shared → Prop) : Cx := { X with xe := E }
abbrev Cx.nox (X : Cx) : Cx := X.wish fun _ _ => False
theorem Cx.Ok.wish {X : Cx} (ok : X.Ok) (E : Value → Shared → Prop) : (X.wish E).Ok :=
  ⟨ok.mod, ok.kind, ok.glob, ok.blt, ok.above, ok.inj, ok.has, ok.cab, ok.hd, ok.frames, ok.stk, ok.exf, ok.bs, ok.bsz, ok.noex, ok.exfs, ok.funs, ok.frf⟩
theorem Cx.Ok.unwish {X : Cx} {E : Value → Shared → Prop} (ok : (X.wish E).Ok) : X.Ok :=
  ⟨ok.mod, ok.kind, ok.glob, ok.blt, ok.above, ok.inj, ok.has, ok.cab, ok.hd, ok.frames, ok.stk, ok.exf, ok.bs, ok.bsz, ok.noex, ok.exfs, ok.funs, ok.frf⟩
section
variable {X : Cx} {pins : List (Addr × Obj)} {σ : St} {H : Hp} {s : Shared} {E : Value → Shared → Prop}
theorem Inv.wish (I : Inv X pins σ H s) (E : Value → Shared → Prop) : Inv (X.wish E) pins σ H s := ⟨I.ok.wish E, I.os, I.bare, I.base, I.loc, I.cell, I.free, I.freeC, I.pin, I.hok, I.len⟩
theorem Inv.unwish (I : Inv (X.wish E) pins σ H s) : Inv X pins σ H s := ⟨I.ok.unwish, I.os, I.bare, I.base, I.loc, I.cell, I.free, I.freeC, I.pin, I.hok, I.len⟩
theorem SP.unwish {D : Ends} {f : Flow} {s' : Shared} (h : SP (X.wish E) pins D f s') : SP X pins D f s' := by
  cases f with
  | next => obtain ⟨σ', H', I, q⟩ := h; exact ⟨σ', H', I.unwish, q⟩
  | brk => obtain ⟨σ', H', I, q⟩ := h; exact ⟨σ', H', I.unwish, q⟩
  | cont => obtain ⟨σ', H', I, q⟩ := h; exact ⟨σ', H', I.unwish, q⟩
  | ret u => obtain ⟨v, σ', H', I, r, q⟩ := h; exact ⟨v, σ', H', I.unwish, r, q⟩
theorem PSs.nox {st : List Stmt} {t : TS} (h : PSs X.nox st t) : PSs X st t := fun pins s σ H D I hw =>
  wpAny_mono (h pins s σ H D (I.wish _) hw) (fun _ _ q => q.unwish) fun _ _ z => False.elim z
end
section
variable {X : Cx} {st : Stmt} {rest : List Stmt} {t u : TS} {e : Expr} {te : TE} {pos : Pos}
def tNext : TS := fun D σ H => D.nx σ H
def tSeq (t u : TS) : TS := fun D σ H => t { D with nx := u D } σ H
theorem pss_nil : PSs X [] tNext := fun _ _ σ H _ I h => wpAny_execs_nil ⟨σ, H, I, h⟩
theorem pss_cons (h1 : PS X st t) (h2 : PSs X rest u) : PSs X (st :: rest) (tSeq t u) := by
  intro pins s σ H D I h
  refine wpAny_execs_cons (thn (h1 pins s σ H { D with nx := u D } I h) fun f s1 q => ?_)
  cases f with
  | next =>
    obtain ⟨σ', H', I', q⟩ := q
    exact h2 pins s1 σ' H' D I' q
  | ret v => exact q
  | brk => exact q
  | cont => exact q
theorem pss_one (h1 : PS X st t) : PSs X [st] t := by
  intro pins s σ H D I h
  refine wpAny_execs_cons (thn (h1 pins s σ H D I h) fun f s1 q => ?_)
  cases f with
  | next => exact wpAny_execs_nil q
  | ret v => exact q
  | brk => exact q
  | cont => exact q
theorem Inv.quiet {pins : List (Addr × Obj)} {σ : St} {H : Hp} {s : Shared} (I : Inv X pins σ H s) : interactive X.env = false := by simp [interactive, I.ok.kind]
def tDrop (te : TE) : TS := fun D σ H => te σ H fun _ H1 => D.nx σ H1
theorem ps_expr (he : PE X e te) (hs : swapsWith e none pos.line X.env = pure false := by rfl) : PS X (.Expr e pos) (tDrop te) := by
  intro pins s σ H D I h
  exact wpAny_Expr_any (thn (he pins s σ H _ I h) fun v s1 ⟨x, H1, I1, r1, q1⟩ => ⟨σ, H1, I1, q1⟩) I.quiet hs
def tRet (te : TE) : TS := fun D σ H => te σ H D.rt
theorem ps_ret (he : PE X e te) : PS X (.Return (some e) pos) (tRet te) := by
  intro pins s σ H D I h
  exact wpAny_Return_some (thn (he pins s σ H _ I h) fun v s1 ⟨x, H1, I1, r1, q1⟩ => ⟨x, σ, H1, I1, r1, q1⟩)
def tRetN : TS := fun D _ H => D.rt .non H
theorem ps_retN : PS X (.Return none pos) tRetN := fun _ _ σ H _ I h => wpAny_Return_none ⟨.non, σ, H, I, rfl, h⟩
def tIfS (c : TT) (t u : TS) : TS := fun D σ H => c σ H fun b H1 => if b = true then t D σ H1 else u D σ H1
theorem ps_if {c : Expr} {a b : List Stmt} {tc : TT} (hc : PT X c tc) (ha : PSs X a t) (hb : PSs X b u) : PS X (.If c a b pos) (tIfS tc t u) := by
  intro pins s σ H D I h
  refine wpAny_If (thn (hc pins s σ H _ I h) fun d s1 ⟨H1, I1, q1⟩ => ?_)
  cases d with
  | true => exact ha pins s1 σ H1 D I1 q1
  | false => exact hb pins s1 σ H1 D I1 q1
end
abbrev TG := V → St → Hp → (St → Hp → Prop) → Prop
def PG (X : Cx) (target : Expr) (t : TG) : Prop :=
  ∀ (pins : List (Addr × Obj)) (s : Shared) (σ : St) (H : Hp) (v : V) (u : Value) (Q : St → Hp → Prop), Inv X pins σ H s → RelV v u → t v σ H Q →
    wpAny (model X.prog X.w) X.A (assign target X.env u) (fun _ s' => ∃ σ' H', Inv X pins σ' H' s' ∧ Q σ' H') X.xe s
section
variable {X : Cx} {pos : Pos}
def gName (i : Nat) : TG := fun v σ H Q => Q (σ.set i (some v)) H
theorem pg_name {i : Nat} {x : Str} (hN : X.N.Nodup) (hi : X.N[i]? = some x) (hx : Loc X.env.scope x) (hf : X.fn x = true ∨ X.env.scope.names.lookup x = some .local := by first | exact .inl rfl | exact .inr rfl | assumption) : PG X (.Name x pos) (gName i) := by
  intro pins s σ H v u Q I r h
  exact wpAny_assign_Name (store_ok I hN hi hx r (fun s' I' => ⟨_, H, I', h⟩) hf)
def tAsg (te : TE) (g : TG) : TS := fun D σ H => te σ H fun x H1 => g x σ H1 D.nx
theorem ps_set {i : Nat} {x : Str} {e : Expr} {te : TE} {pos' : Pos} (hN : X.N.Nodup) (hi : X.N[i]? = some x) (hx : Loc X.env.scope x) (he : PE X e te) (hs : swapsWith e (some (.Name x pos')) pos.line X.env = pure false := by rfl) (hf : X.fn x = true ∨ X.env.scope.names.lookup x = some .local := by first | exact .inl rfl | exact .inr rfl | assumption) :
    PS X (.Assign [.Name x pos'] e pos) (tAsg te (gName i)) := by
  intro pins s σ H D I h
  refine wpAny_Assign_Name (thn (he pins s σ H _ I h) fun v s1 ⟨y, H1, I1, r1, q1⟩ => ?_) hs
  exact store_ok I1 hN hi hx r1 (fun s2 I2 => ⟨_, H1, I2, q1⟩) hf
end
section
variable {X : Cx} {pos : Pos}
def tWhile (c : TT) (tb : TS) : TS := fun D σ H => ∃ W : Nat → St → Hp → Prop, (∃ m, W m σ H) ∧ ∀ m σ H, W m σ H →
  c σ H fun b H1 => if b = true then ∃ N : St → Hp → Prop, (∀ σ' H', N σ' H' → ∃ m', m' < m ∧ W m' σ' H') ∧ tb { D with nx := N, ct := N, bk := D.nx } σ H1 else D.nx σ H1
theorem ps_while {c : Expr} {body : List Stmt} {tc : TT} {tb : TS} (hp : PassesOwn (model X.prog X.w) X.A X.env X.xe) (hc : PT X c tc) (hb : PSs X body tb) : PS X (.While c body [] pos) (tWhile tc tb) := by
  intro pins s σ H D I h
  obtain ⟨W, ⟨m0, w0⟩, turn⟩ := h
  refine wpAny_While (codeAny_whileLoop (fun n s' => ∃ σ' H', Inv X pins σ' H' s' ∧ W n σ' H') ?_ m0 ⟨σ, H, I, w0⟩)
  rintro n s1 ⟨σ1, H1, I1, w1⟩
  refine wpAny_passesOwn hp (thn (hc pins s1 σ1 H1 _ I1 (turn n σ1 H1 w1)) fun b s2 ⟨H2, I2, q2⟩ => ?_)
  cases b with
  | true =>
    obtain ⟨N, hN, q2⟩ := q2
    rw [if_pos rfl]
    refine wpAny_passesOwn hp (thn (hb pins s2 σ1 H2 _ I2 q2) fun f s3 q3 => ?_)
    cases f with
    | next =>
      obtain ⟨σ3, H3, I3, n3⟩ := q3
      obtain ⟨m', hm, w3⟩ := hN σ3 H3 n3
      exact ⟨m', hm, σ3, H3, I3, w3⟩
    | cont =>
      obtain ⟨σ3, H3, I3, n3⟩ := q3
      obtain ⟨m', hm, w3⟩ := hN σ3 H3 n3
      exact ⟨m', hm, σ3, H3, I3, w3⟩
    | brk => exact q3
    | ret v => exact q3
  | false =>
    rw [if_neg Bool.false_ne_true]
    exact wpAny_execs_nil ⟨σ1, H2, I2, q2⟩
end
structure It where
  go : Nat → Hp → Prop
  yld : Nat → Hp → V → Hp → Prop
  stop : Nat → Hp → Prop
def FpOk (X : Cx) (pins : List (Addr × Obj)) (H : Hp) (b : Addr) : Prop :=
  H b = none ∧ b ≠ X.env.locals ∧ b ∉ X.fs ∧ (b ∈ X.ex ∨ X.s₀.heap.objs.size ≤ b) ∧ (∀ x c, X.env.cells.lookup x = some c → c ≠ b) ∧ ∀ p ∈ X.pn ++ pins, p.1 ≠ b
theorem Inv.fpOk {X : Cx} {pins : List (Addr × Obj)} {σ : St} {H H' : Hp} {s : Shared} {b : Addr} (I : Inv X pins σ H s) (hb : s.heap.objs.size ≤ b) (hn : H' b = none) : FpOk X pins H' b := by
  refine ⟨hn, Nat.ne_of_gt (Nat.lt_of_lt_of_le I.lt hb), I.nofs hb, .inr (Nat.le_trans I.sz hb), fun x c e z => ?_, fun p hp z => ?_⟩
  · obtain ⟨v, q⟩ := I.cell x c e
    exact absurd (Nat.lt_of_lt_of_le q.lt (by rw [z]; exact hb)) (Nat.lt_irrefl _)
  · exact absurd (Nat.lt_of_lt_of_le (Heap.lt_size (I.pin p hp).1) (by rw [z]; exact hb)) (Nat.lt_irrefl _)
structure Turn (P : Program) (w : World) (K : PySem.W.Frag) (tg : Expr) (J : It) (fp : List Addr) (it : Addr) (tn : Nat → Heap → Prop) : Prop where
  mem : it ∈ fp
  obj : ∀ i h, tn i h → ∀ b ∈ fp, ∃ o, h.get? b = some o ∧ ∀ v, o.data ≠ .cell v
  keep : ∀ i h h', tn i h → (∀ b ∈ fp, ∀ o, h.get? b = some o → h'.get? b = some o) → tn i h'
  item : ∀ (X : Cx), X.prog = P → X.w = w → X.K = K → X.calm = true → ∀ (i : Nat) (pins : List (Addr × Obj)) (s : Shared) (σ : St) (H : Hp) (E : Value → Shared → Prop), Inv X pins σ H s → (∀ b ∈ fp, FpOk X pins H b) → tn i s.heap → J.go i H →
    wpAny (model P w) X.A (pyNext (.ref it)) (fun r s1 => ∃ u, r = some u ∧
      wpAny (model P w) X.A (letOwnedTupleGo tg (.ref it) u) (fun _ s2 => ∃ x H', Inv X pins σ H' s2 ∧ RelV x u ∧ J.yld i H x H' ∧ tn (i + 1) s2.heap ∧ ∀ b ∈ fp, H' b = none) E s1) E s
  done : ∀ (X : Cx), X.prog = P → X.w = w → X.K = K → X.calm = true → ∀ (i : Nat) (pins : List (Addr × Obj)) (s : Shared) (σ : St) (H : Hp) (E : Value → Shared → Prop), Inv X pins σ H s → (∀ b ∈ fp, FpOk X pins H b) → tn i s.heap → J.stop i H →
    wpAny (model P w) X.A (pyNext (.ref it)) (fun r s1 => r = none ∧ Inv X pins σ H s1) E s
  self : ∀ (A : Around) (i : Nat) (s : Shared) (Q : Value → Shared → Prop) (E : Value → Shared → Prop), tn i s.heap → Q (.ref it) s → wpAny (model P w) A (pyIter (.ref it)) Q E s
abbrev TI := St → Hp → (It → Hp → Prop) → Prop
def PIE (X : Cx) (pins : List (Addr × Obj)) (σ : St) (tg : Expr) (R : It → Hp → Prop) (itv : Value) (s2 : Shared) : Prop :=
  ∃ (it : Addr) (fp : List Addr) (tn : Nat → Heap → Prop) (J : It) (H' : Hp), itv = .ref it ∧ Inv X pins σ H' s2 ∧ Turn X.prog X.w X.K tg J fp it tn ∧ tn 0 s2.heap ∧ (∀ b ∈ fp, FpOk X pins H' b) ∧ R J H'
def PI (X : Cx) (tg iter : Expr) (wi : TI) : Prop :=
  ∀ (pins : List (Addr × Obj)) (s : Shared) (σ : St) (H : Hp) (R : It → Hp → Prop), Inv X pins σ H s → wi σ H R →
    wpAny (model X.prog X.w) X.A (eval iter X.env) (fun v s1 => wpAny (model X.prog X.w) X.A (pyIter v) (PIE X pins σ tg R) X.xe s1) X.xe s
theorem go_of {M : Model} {A : Around} {E : Value → Shared → Prop} {s : Shared} {tg : Expr} {it : Addr} {u : Value} {o : Obj} {n : String} {vs : Array Value} {Q : Unit → Shared → Prop} (ho : s.heap.get? it = some o) (hc : o.cls = .type n) (hd : o.data = .fields vs)
    (hn : ["enumerate", "zip", "dict_itemiterator", "dict_reverseitemiterator", "odict_iterator", "itertools.zip_longest", "itertools.pairwise"].contains n = false) (hQ : Q () s) : wpAny M A (letOwnedTupleGo tg (.ref it) u) Q E s := by
  unfold letOwnedTupleGo
  cases tg <;> first
    | exact wpAny_pure hQ
    | (cases u <;> first
        | exact wpAny_pure hQ
        | (refine wpAny_bind (wpAny_load ho ?_)
           rw [hc, hd]
           show wpAny M A (if (["enumerate", "zip", "dict_itemiterator", "dict_reverseitemiterator", "odict_iterator", "itertools.zip_longest", "itertools.pairwise"].contains n && vs[0]? == some (rawInt _)) = true then _ else _) Q E s
           rw [if_neg (by intro h; rw [hn, Bool.false_and] at h; cases h)]
           exact wpAny_pure hQ))
def Itl (K : PySem.W.Frag) (a : Addr) : It :=
  ⟨fun i H => ∃ xs x, SqL K H a xs ∧ xs[i]? = some x, fun i H x H' => H' = H ∧ ∀ xs, SqL K H a xs → xs[i]? = some x, fun i H => ∃ xs, SqL K H a xs ∧ xs.length ≤ i⟩
theorem turn_list {P : Program} {w : World} {K : PySem.W.Frag} {tg : Expr} (a it : Addr) : Turn P w K tg (Itl K a) [it] it (fun i h => h.IsListIter it a i) where
  mem := by simp
  obj := fun i h st b hb => by
    have e : b = it := by simpa using hb
    subst e
    obtain ⟨o, e, c, d⟩ := st
    exact ⟨o, e, fun v z => by rw [d] at z; cases z⟩
  keep := fun i h h' st k => st.at fun o e => k it (by simp) o e
  item := by
    intro X hP hw hK hc i pins s σ H E I hf st hg
    subst hP hw hK
    obtain ⟨xs, x, hq, hx⟩ := hg
    obtain ⟨its, rv, p, hz⟩ := I.list hq
    obtain ⟨u, hu, ru⟩ := rv.get hx
    obtain ⟨f0, f1, f2, f3, f4, f5⟩ := hf it (by simp)
    refine wpAny_pyNext_list_item st p.isList (x := u) (by simpa using hu) fun h' st' sb => ?_
    have I1 : Inv X pins σ H { s with heap := h' } := I.turned (t' := s.toks) (fun b o hb e => (sb.2 b hb).trans e) f0 f1 f3 f4 f5
    obtain ⟨o, e, c, d⟩ := id st'
    exact ⟨u, rfl, go_of (s := { s with heap := h' }) e c d (by decide) ⟨x, H, I1, ru, ⟨rfl, fun ys hy => by rw [I.list_inj hy hq]; exact hx⟩, st', fun b hb => (hf b hb).1⟩⟩
  done := by
    intro X hP hw hK hc i pins s σ H E I hf st hg
    subst hP hw hK
    obtain ⟨xs, hq, hx⟩ := hg
    obtain ⟨its, rv, p, hz⟩ := I.list hq
    obtain ⟨f0, f1, f2, f3, f4, f5⟩ := hf it (by simp)
    have hl := rv.length
    exact wpAny_pyNext_list_end (I.ok.hd hc) st p.isList (by simp; omega) fun h' eb => ⟨rfl, I.turned (t' := s.toks) (fun b o hb e => eb b o hb e) f0 f1 f3 f4 f5⟩
  self := fun _ _ _ _ _ st h => wpAny_pyIter_listiter st h
end L2
namespace L2
open PySem PySem.Spec PyProof.Rows
section
variable {X : Cx} {tg : Expr}
def iList (K : PySem.W.Frag) (tl : TE) : TI := fun σ H R => tl σ H fun x H1 => ∃ a, x = .ref a ∧ (∃ xs, SqL K H1 a xs) ∧ R (Itl K a) H1
theorem pi_list {l : Expr} {tl : TE} (hl : PE X l tl) : PI X tg l (iList X.K tl) := by
  intro pins s σ H R I h
  refine thn (hl pins s σ H _ I h) fun v s1 ⟨x, H1, I1, r1, q1⟩ => ?_
  obtain ⟨a, e, ⟨xs, hq⟩, q⟩ := q1
  subst e
  cases r1
  obtain ⟨its, rv, p, hz⟩ := I1.list hq
  refine wpAny_pyIter_list p.isList ?_
  refine ⟨s1.heap.objs.size, [s1.heap.objs.size], _, _, H1, rfl, I1.kept (t' := s1.toks) fun b o e => Heap.get?_push_of_some _ e, turn_list a _, ⟨_, Heap.get?_push_size _ rfl, rfl, rfl⟩, fun b hb => ?_, q⟩
  have e : b = s1.heap.objs.size := by simpa using hb
  subst e
  exact I1.fpOk (Nat.le_refl _) (I1.hok.fresh (Nat.le_refl _))
def tFor (wi : TI) (g : TG) (tb : TS) : TS := fun D σ H => wi σ H fun J H1 => ∃ W : Nat → Nat → St → Hp → Prop, (∃ m, W 0 m σ H1) ∧ ∀ i m σ H, W i m σ H →
  (J.stop i H ∧ D.nx σ H) ∨ (J.go i H ∧ ∃ N : St → Hp → Prop, (∀ σ' H', N σ' H' → ∃ m', m' < m ∧ W (i + 1) m' σ' H') ∧ ∀ x H', J.yld i H x H' → g x σ H' fun σ2 H2 => tb { D with nx := N, ct := N, bk := D.nx } σ2 H2)
def pinsAt (fp : List Addr) (h : Heap) : List (Addr × Obj) := fp.filterMap fun b => (h.get? b).map fun o => (b, o)
theorem mem_pinsAt {fp : List Addr} {h : Heap} {b : Addr} {o : Obj} (hb : b ∈ fp) (e : h.get? b = some o) : (b, o) ∈ pinsAt fp h := List.mem_filterMap.mpr ⟨b, hb, by rw [e]; rfl⟩
theorem of_pinsAt {fp : List Addr} {h : Heap} {p : Addr × Obj} (hp : p ∈ pinsAt fp h) : p.1 ∈ fp ∧ h.get? p.1 = some p.2 := by
  obtain ⟨b, hb, e⟩ := List.mem_filterMap.mp hp
  cases q : h.get? b with
  | none => rw [q] at e; cases e
  | some o =>
    rw [q] at e
    have e' : (b, o) = p := Option.some.inj e
    subst e'
    exact ⟨hb, q⟩
theorem Inv.pinned {pins : List (Addr × Obj)} {σ : St} {H : Hp} {s : Shared} {fp : List Addr} (I : Inv X pins σ H s) (hf : ∀ b ∈ fp, FpOk X pins H b) (ho : ∀ b ∈ fp, ∃ o, s.heap.get? b = some o ∧ ∀ v, o.data ≠ .cell v) : Inv X (pins ++ pinsAt fp s.heap) σ H s :=
  I.pins_of fun p hp => (List.mem_append.mp hp).elim (fun z => I.pin p (List.mem_append_right _ z)) fun z => by
    obtain ⟨hb, e⟩ := of_pinsAt z
    obtain ⟨f0, f1, f2, _⟩ := hf p.1 hb
    obtain ⟨o, e', d⟩ := ho p.1 hb
    rw [e] at e'; cases e'
    exact ⟨e, f0, f1, f2, d⟩
theorem Inv.unpinned {pins pl : List (Addr × Obj)} {σ : St} {H : Hp} {s : Shared} (I : Inv X (pins ++ pl) σ H s) : Inv X pins σ H s := I.pins_of fun p hp => I.pin p (List.mem_append_right _ (List.mem_append_left _ hp))
theorem ps_for {iter : Expr} {body : List Stmt} {wi : TI} {g : TG} {tb : TS} {pos : Pos} (hp : PassesOwn (model X.prog X.w) X.A X.env X.xe) (hc : X.calm = true) (hi : PI X tg iter wi) (hg : PG X tg g) (hb : PSs X body tb)
    (hs : ∀ x, foldedSetIterable iter X.env x = pure x := by intro _; rfl) : PS X (.For tg iter body [] pos) (tFor wi g tb) := by
  intro pins s σ H D I h
  refine wpAny_For (thn (hi pins s σ H _ I h) fun v s1 h1 => thn h1 fun itv s2 h2 => ?_) hs
  obtain ⟨it, fp, tn, J, H2, e, I2, T, st2, f2, W, ⟨m0, w0⟩, turn⟩ := h2
  subst e
  have stat : ∀ {H' : Hp}, (∀ b ∈ fp, H' b = none) → ∀ b ∈ fp, FpOk X pins H' b := fun hn b hb => ⟨hn b hb, (f2 b hb).2⟩
  refine codeAny_forLoop_any (fun n s' => ∃ i σ' H', Inv X pins σ' H' s' ∧ tn i s'.heap ∧ (∀ b ∈ fp, H' b = none) ∧ W i n σ' H') ?_ m0 ⟨0, σ, H2, I2, st2, fun b hb => (f2 b hb).1, w0⟩
  rintro n s3 ⟨i, σ3, H3, I3, st3, fr3, w3⟩
  rcases turn i n σ3 H3 w3 with ⟨stop, qn⟩ | ⟨go, N, hN, step⟩
  · refine wpAny_passesOwn hp (thn (T.done X rfl rfl rfl hc i pins s3 σ3 H3 X.xe I3 (stat fr3) st3 stop) fun r s4 ⟨hr, I4⟩ => ?_)
    subst hr
    exact wpAny_execs_nil ⟨σ3, H3, I4, qn⟩
  · refine wpAny_passesOwn hp (thn (T.item X rfl rfl rfl hc i pins s3 σ3 H3 X.xe I3 (stat fr3) st3 go) fun r s4 ⟨u, hr, h4⟩ => ?_)
    subst hr
    refine wpAny_passesOwn hp (thn h4 fun _ s5 ⟨x, H5, I5, r5, y5, st5, fr5⟩ => ?_)
    have I5' := I5.pinned (stat fr5) (T.obj _ _ st5)
    refine wpAny_passesOwn hp (thn (hg _ s5 σ3 H5 x u _ I5' r5 (step x H5 y5)) fun _ s6 ⟨σ6, H6, I6, q6⟩ => ?_)
    refine wpAny_passesOwn hp (thn (hb _ s6 σ6 H6 _ I6 q6) fun f s7 q7 => ?_)
    have again : ∀ {σ7 : St} {H7 : Hp}, Inv X (pins ++ pinsAt fp s5.heap) σ7 H7 s7 → N σ7 H7 → ∃ m, m < n ∧ ∃ i σ' H', Inv X pins σ' H' s7 ∧ tn i s7.heap ∧ (∀ b ∈ fp, H' b = none) ∧ W i m σ' H' := fun {σ7 H7} I7 n7 => by
      obtain ⟨m', hm, w7⟩ := hN σ7 H7 n7
      refine ⟨m', hm, i + 1, σ7, H7, I7.unpinned, T.keep _ _ _ st5 fun b hb o e => (I7.pin (b, o) (List.mem_append_right _ (List.mem_append_right _ (mem_pinsAt hb e)))).1, fun b hb => ?_, w7⟩
      obtain ⟨o, e, d⟩ := T.obj _ _ st5 b hb
      exact (I7.pin (b, o) (List.mem_append_right _ (List.mem_append_right _ (mem_pinsAt hb e)))).2.1
    cases f with
    | next => obtain ⟨σ7, H7, I7, n7⟩ := q7; exact again I7 n7
    | cont => obtain ⟨σ7, H7, I7, n7⟩ := q7; exact again I7 n7
    | brk => obtain ⟨σ7, H7, I7, q7⟩ := q7; exact ⟨σ7, H7, I7.unpinned, q7⟩
    | ret v => obtain ⟨x7, σ7, H7, I7, r7, q7⟩ := q7; exact ⟨x7, σ7, H7, I7.unpinned, r7, q7⟩
end
theorem for_list {K : PySem.W.Frag} {a : Addr} {xs : List V} {g : TG} {tb : TS} {D : Ends} {σ : St} {H : Hp} (Pv : Nat → St → Hp → Prop) (h0 : Pv 0 σ H) (hl : ∀ i σ H, i ≤ xs.length → Pv i σ H → SqL K H a xs)
    (hs : ∀ i x σ H, xs[i]? = some x → Pv i σ H → g x σ H fun σ2 H2 => tb { D with nx := Pv (i + 1), ct := Pv (i + 1), bk := D.nx } σ2 H2) (hd : ∀ σ H, Pv xs.length σ H → D.nx σ H) :
    ∃ W : Nat → Nat → St → Hp → Prop, (∃ m, W 0 m σ H) ∧ ∀ i m σ H, W i m σ H →
      ((Itl K a).stop i H ∧ D.nx σ H) ∨ ((Itl K a).go i H ∧ ∃ N : St → Hp → Prop, (∀ σ' H', N σ' H' → ∃ m', m' < m ∧ W (i + 1) m' σ' H') ∧ ∀ x H', (Itl K a).yld i H x H' → g x σ H' fun σ2 H2 => tb { D with nx := N, ct := N, bk := D.nx } σ2 H2) := by
  refine ⟨fun i m σ H => m = xs.length - i ∧ i ≤ xs.length ∧ Pv i σ H, ⟨xs.length, by simp, Nat.zero_le _, h0⟩, ?_⟩
  rintro i m σ H ⟨rfl, hi, p⟩
  have q := hl i σ H hi p
  by_cases hlt : i < xs.length
  · refine .inr ⟨⟨xs, xs[i], q, by simp [hlt]⟩, Pv (i + 1), fun σ' H' p' => ⟨xs.length - (i + 1), by omega, rfl, hlt, p'⟩, fun x H' y => ?_⟩
    obtain ⟨e, y⟩ := y
    subst e
    exact hs i x σ _ (y xs q) p
  · have e : i = xs.length := by omega
    subst e
    exact .inl ⟨⟨xs, q, Nat.le_refl _⟩, hd σ H p⟩
end L2
namespace L2
open PySem PySem.Spec PyProof.Rows
abbrev R2 := V → V → Hp → VK → Prop
def OpR (X : Cx) (f : Value → Value → Sem Value) (r : R2) : Prop :=
  ∀ (pins : List (Addr × Obj)) (s : Shared) (σ : St) (H : Hp) (x y : V) (v u : Value) (Q : VK), Inv X pins σ H s → RelV x v → RelV y u → r x y H Q →
    wpAny (model X.prog X.w) X.A (f v u) (EP X pins σ Q) X.xe s
def CallR (X : Cx) (f : Value) (r : List V → Hp → VK → Prop) : Prop :=
  ∀ (pins : List (Addr × Obj)) (s : Shared) (σ : St) (H : Hp) (xs : List V) (us : List Value) (Q : VK), Inv X pins σ H s → Vals xs us → r xs H Q →
    wpAny (model X.prog X.w) X.A (call f us) (EP X pins σ Q) X.xe s
def tOp (r : R2) (ta tb : TE) : TE := fun σ H Q => ta σ H fun x H1 => tb σ H1 fun y H2 => r x y H2 Q
def rI (C : Int → Int → Prop) (g : Int → Int → V) : R2 := fun x y H Q => ∃ i j, x = .int i ∧ y = .int j ∧ C i j ∧ Q (g i j) H
def rI0 (g : Int → Int → V) : R2 := fun x y H Q => ∃ i j, x = .int i ∧ y = .int j ∧ Q (g i j) H
section
variable {X : Cx} {a b c : Expr} {ta tb tc : TE} {pos : Pos}
theorem binT (ha : PE X a ta) (hb : PE X b tb) {pins : List (Addr × Obj)} {s : Shared} {σ : St} {H : Hp} {R : V → V → Hp → Prop} (I : Inv X pins σ H s)
    (h : ta σ H fun x H1 => tb σ H1 fun y H2 => R x y H2) {Q : Value → Shared → Prop} {f : Value → Value → Sem Value}
    (hf : ∀ v u s2 x y H2, Inv X pins σ H2 s2 → RelV x v → RelV y u → R x y H2 → wpAny (model X.prog X.w) X.A (f v u) Q X.xe s2) :
    wpAny (model X.prog X.w) X.A (eval a X.env) (fun v s₁ => wpAny (model X.prog X.w) X.A (eval b X.env) (fun u s₂ => wpAny (model X.prog X.w) X.A (f v u) Q X.xe s₂) X.xe s₁) X.xe s := by
  refine thn (ha pins s σ H _ I h) fun v s1 ⟨x, H1, I1, r1, q1⟩ => ?_
  refine thn (hb pins s1 σ H1 _ I1 q1) fun u s2 ⟨y, H2, I2, r2, q2⟩ => ?_
  exact hf v u s2 x y H2 I2 r1 r2 q2
theorem pe_op {op : Operator} {r : R2} (ho : OpR X (binaryOp op) r) (ha : PE X a ta) (hb : PE X b tb) : PE X (.BinOp a op b pos) (tOp r ta tb) := by
  intro pins s σ H Q I h
  exact wpAny_BinOp (binT ha hb I h fun v u s2 x y H2 I2 rx ry q => ho pins s2 σ H2 x y v u Q I2 rx ry q)
theorem opI {f : Value → Value → Sem Value} {C : Int → Int → Prop} {g : Int → Int → Int}
    (rule : ∀ (i j : Int) (t u : Tok) (s : Shared) (Q : Value → Shared → Prop) (E : Value → Shared → Prop), C i j → Q (.int (g i j) s.toks) { s with toks := s.toks + 1 } → wpAny (model X.prog X.w) X.A (f (.int i t) (.int j u)) Q E s) :
    OpR X f (rI C fun i j => .int (g i j)) := by
  intro pins s σ H x y v u Q I rx ry h
  obtain ⟨i, j, rfl, rfl, hc, q⟩ := h
  obtain ⟨t, rfl⟩ := rx
  obtain ⟨t', rfl⟩ := ry
  exact rule i j t t' s _ _ hc ⟨.int (g i j), H, I.tok _, ⟨_, rfl⟩, q⟩
theorem opI0 {f : Value → Value → Sem Value} {g : Int → Int → Int}
    (rule : ∀ (i j : Int) (t u : Tok) (s : Shared) (Q : Value → Shared → Prop) (E : Value → Shared → Prop), Q (.int (g i j) s.toks) { s with toks := s.toks + 1 } → wpAny (model X.prog X.w) X.A (f (.int i t) (.int j u)) Q E s) :
    OpR X f (rI0 fun i j => .int (g i j)) := by
  intro pins s σ H x y v u Q I rx ry h
  obtain ⟨i, j, rfl, rfl, q⟩ := h
  obtain ⟨t, rfl⟩ := rx
  obtain ⟨t', rfl⟩ := ry
  exact rule i j t t' s _ _ ⟨.int (g i j), H, I.tok _, ⟨_, rfl⟩, q⟩
theorem opB0 {f : Value → Value → Sem Value} {g : Int → Int → Bool}
    (rule : ∀ (i j : Int) (t u : Tok) (s : Shared) (Q : Value → Shared → Prop) (E : Value → Shared → Prop), Q (.bool (g i j)) s → wpAny (model X.prog X.w) X.A (f (.int i t) (.int j u)) Q E s) :
    OpR X f (rI0 fun i j => .bl (g i j)) := by
  intro pins s σ H x y v u Q I rx ry h
  obtain ⟨i, j, rfl, rfl, q⟩ := h
  obtain ⟨t, rfl⟩ := rx
  obtain ⟨t', rfl⟩ := ry
  exact rule i j t t' s _ _ ⟨.bl (g i j), H, I, rfl, q⟩
def CMul (i j : Int) : Prop := (-(2 ^ 64) < i ∧ i < 2 ^ 64) ∨ (-(2 ^ 64) < j ∧ j < 2 ^ 64)
theorem CMul.ok {i j : Int} (h : CMul i j) : IntMulOk i j := by
  rcases h with ⟨h1, h2⟩ | ⟨h1, h2⟩
  · exact .of_left (intBits_le_64 h1 h2)
  · exact .of_right (intBits_le_64 h1 h2)
theorem op_add : OpR X (binaryOp .Add) (rI0 fun i j => .int (i + j)) := opI0 fun _ _ _ _ _ _ _ q => add_int q
theorem op_sub : OpR X (binaryOp .Sub) (rI0 fun i j => .int (i - j)) := opI0 fun _ _ _ _ _ _ _ q => sub_int q
theorem op_mul : OpR X (binaryOp .Mult) (rI CMul fun i j => .int (i * j)) := opI fun _ _ _ _ _ _ _ hc q => mul_int q hc.ok
end
def scal : V → V → Bool
  | .non, .non => true | .non, .int _ => true | .int _, .non => true | .non, .bl _ => true | .bl _, .non => true | .non, .str _ => true | .str _, .non => true
  | .int _, .int _ => true | .bl _, .bl _ => true | .str _, .str _ => true | .byt _, .byt _ => true
  | .int _, .str _ => true | .str _, .int _ => true | .bl _, .str _ => true | .str _, .bl _ => true
  | _, _ => false
def rEq : R2 := fun x y H Q => scal x y = true ∧ Q (.bl (decide (x = y))) H
def rNe : R2 := fun x y H Q => scal x y = true ∧ Q (.bl (!decide (x = y))) H
theorem dec_int {i j : Int} : decide (V.int i = V.int j) = (i == j) := by
  rw [Bool.eq_iff_iff]
  simp
theorem dec_bl {i j : Bool} : decide (V.bl i = V.bl j) = (i == j) := by
  rw [Bool.eq_iff_iff]
  simp
theorem dec_str {i j : Str} : decide (V.str i = V.str j) = (i == j) := by
  rw [Bool.eq_iff_iff]
  simp
theorem dec_byt {i j : Array UInt8} : decide (V.byt i = V.byt j) = (i.toList == j.toList) := by
  rw [Bool.eq_iff_iff]
  cases i
  cases j
  simp
section
variable {X : Cx} {a b c : Expr} {ta tb tc : TE} {pos : Pos}
theorem fin_bl {pins : List (Addr × Obj)} {σ : St} {H : Hp} {s : Shared} {Q : VK} {k k' : Bool} (I : Inv X pins σ H s) (q : Q (.bl k) H) (e : k = k') : EP X pins σ Q (.bool k') s := by
  subst e
  exact ⟨.bl k, H, I, rfl, q⟩
theorem op_eq : OpR X (compareOp .Eq) rEq := by
  intro pins s σ H x y v u Q I rx ry h
  obtain ⟨hs, q⟩ := h
  cases x with
  | non =>
    cases rx
    cases y with
    | non => cases ry; exact PySem.EqNone.eq_none_none (fin_bl I q (by simp))
    | bl j => cases ry; exact PySem.EqNone.eq_none_bool (fin_bl I q (by simp))
    | int j => obtain ⟨t', rfl⟩ := ry; exact PySem.EqNone.eq_none_int (fin_bl I q (by simp))
    | str j => obtain ⟨t', rfl⟩ := ry; exact PySem.EqNone.eq_none_str (fin_bl I q (by simp))
    | _ => exact absurd (show false = true from hs) Bool.false_ne_true
  | bl i =>
    cases rx
    cases y with
    | non => cases ry; exact PySem.EqNone.eq_bool_none (fin_bl I q (by simp))
    | bl j => cases ry; exact eq_bool (fin_bl I q dec_bl)
    | str j => obtain ⟨t', rfl⟩ := ry; exact PySem.EqMixed.eq_bool_str (fin_bl I q (by simp))
    | _ => exact absurd (show false = true from hs) Bool.false_ne_true
  | int i =>
    obtain ⟨t, rfl⟩ := rx
    cases y with
    | non => cases ry; exact PySem.EqNone.eq_int_none (fin_bl I q (by simp))
    | int j => obtain ⟨t', rfl⟩ := ry; exact eq_int (fin_bl I q dec_int)
    | str j => obtain ⟨t', rfl⟩ := ry; exact PySem.EqMixed.eq_int_str (fin_bl I q (by simp))
    | _ => exact absurd (show false = true from hs) Bool.false_ne_true
  | str i =>
    obtain ⟨t, rfl⟩ := rx
    cases y with
    | non => cases ry; exact PySem.EqNone.eq_str_none (fin_bl I q (by simp))
    | bl j => cases ry; exact PySem.EqMixed.eq_str_bool (fin_bl I q (by simp))
    | int j => obtain ⟨t', rfl⟩ := ry; exact PySem.EqMixed.eq_str_int (fin_bl I q (by simp))
    | str j => obtain ⟨t', rfl⟩ := ry; exact eq_str (fin_bl I q dec_str)
    | _ => exact absurd (show false = true from hs) Bool.false_ne_true
  | byt i =>
    obtain ⟨t, rfl⟩ := rx
    cases y with
    | byt j => obtain ⟨t', rfl⟩ := ry; exact PySem.W.eq_bytes (fin_bl I q dec_byt)
    | _ => exact absurd (show false = true from hs) Bool.false_ne_true
  | _ => cases y <;> exact absurd (show false = true from hs) Bool.false_ne_true
theorem op_ne : OpR X (compareOp .NotEq) rNe := by
  intro pins s σ H x y v u Q I rx ry h
  obtain ⟨hs, q⟩ := h
  cases x with
  | non =>
    cases rx
    cases y with
    | non => cases ry; exact PySem.EqNone.ne_none_none (fin_bl I q (by simp))
    | bl j => cases ry; exact PySem.EqNone.ne_none_bool (fin_bl I q (by simp))
    | int j => obtain ⟨t', rfl⟩ := ry; exact PySem.EqNone.ne_none_int (fin_bl I q (by simp))
    | str j => obtain ⟨t', rfl⟩ := ry; exact PySem.EqNone.ne_none_str (fin_bl I q (by simp))
    | _ => exact absurd (show false = true from hs) Bool.false_ne_true
  | bl i =>
    cases rx
    cases y with
    | non => cases ry; exact PySem.EqNone.ne_bool_none (fin_bl I q (by simp))
    | bl j => cases ry; exact ne_bool (fin_bl I q (congrArg not dec_bl))
    | str j => obtain ⟨t', rfl⟩ := ry; exact PySem.EqMixed.ne_bool_str (fin_bl I q (by simp))
    | _ => exact absurd (show false = true from hs) Bool.false_ne_true
  | int i =>
    obtain ⟨t, rfl⟩ := rx
    cases y with
    | non => cases ry; exact PySem.EqNone.ne_int_none (fin_bl I q (by simp))
    | int j => obtain ⟨t', rfl⟩ := ry; exact ne_int (fin_bl I q (congrArg not dec_int))
    | str j => obtain ⟨t', rfl⟩ := ry; exact PySem.EqMixed.ne_int_str (fin_bl I q (by simp))
    | _ => exact absurd (show false = true from hs) Bool.false_ne_true
  | str i =>
    obtain ⟨t, rfl⟩ := rx
    cases y with
    | non => cases ry; exact PySem.EqNone.ne_str_none (fin_bl I q (by simp))
    | bl j => cases ry; exact PySem.EqMixed.ne_str_bool (fin_bl I q (by simp))
    | int j => obtain ⟨t', rfl⟩ := ry; exact PySem.EqMixed.ne_str_int (fin_bl I q (by simp))
    | str j => obtain ⟨t', rfl⟩ := ry; exact ne_str (fin_bl I q (congrArg not dec_str))
    | _ => exact absurd (show false = true from hs) Bool.false_ne_true
  | byt i =>
    obtain ⟨t, rfl⟩ := rx
    cases y with
    | byt j => obtain ⟨t', rfl⟩ := ry; exact PySem.W.ne_bytes (fin_bl I q (congrArg not dec_byt))
    | _ => exact absurd (show false = true from hs) Bool.false_ne_true
  | _ => cases y <;> exact absurd (show false = true from hs) Bool.false_ne_true
theorem op_lt : OpR X (compareOp .Lt) (rI0 fun i j => .bl (decide (i < j))) := opB0 fun _ _ _ _ _ _ _ q => lt_int q
theorem op_le : OpR X (compareOp .LtE) (rI0 fun i j => .bl (decide (i ≤ j))) := opB0 fun _ _ _ _ _ _ _ q => le_int q
theorem op_gt : OpR X (compareOp .Gt) (rI0 fun i j => .bl (decide (j < i))) := opB0 fun _ _ _ _ _ _ _ q => gt_int q
theorem op_ge : OpR X (compareOp .GtE) (rI0 fun i j => .bl (decide (j ≤ i))) := opB0 fun _ _ _ _ _ _ _ q => ge_int q
theorem nomark (b : Expr) {op : CmpOp} (h : op ≠ .In := by decide) (h2 : op ≠ .NotIn := by decide) : behindInMarks op b = false := by
  have e1 : (op == CmpOp.In) = false := by cases op <;> first | rfl | exact absurd rfl h
  have e2 : (op == CmpOp.NotIn) = false := by cases op <;> first | rfl | exact absurd rfl h2
  cases b <;> simp [behindInMarks, e1, e2]
theorem pe_cmpR {op : CmpOp} {r : R2} (ho : OpR X (compareOp op) r) (ha : PE X a ta) (hb : PE X b tb) (hm : behindInMarks op b = false) : PE X (.Compare a [op] [b] pos) (tOp r ta tb) := by
  intro pins s σ H Q I h
  exact wpAny_Compare1 (binT ha hb I h fun v u s2 x y H2 I2 rx ry q => ho pins s2 σ H2 x y v u Q I2 rx ry q) hm
def tTest (t : TE) : TT := fun σ H Q => t σ H fun x H' => ∃ k, x = .bl k ∧ Q k H'
theorem pt_cmpR {op : CmpOp} {r : R2} (ho : OpR X (compareOp op) r) (ha : PE X a ta) (hb : PE X b tb) (hm : behindInMarks op b = false) : PT X (.Compare a [op] [b] pos) (tTest (tOp r ta tb)) := by
  intro pins s σ H Q I h
  refine wpAny_isTrue_Compare1 (thn (ha pins s σ H _ I h) fun v s1 ⟨x, H1, I1, r1, q1⟩ => thn (hb pins s1 σ H1 _ I1 q1) fun u s2 ⟨y, H2, I2, r2, q2⟩ =>
    thn (ho pins s2 σ H2 x y v u _ I2 r1 r2 q2) fun c s3 ⟨z, H3, I3, r3, k, e, q3⟩ => ?_) hm
  subst e
  cases r3
  exact wpAny_truthy_bool ⟨H3, I3, q3⟩
theorem line63 : (sizeLine : Nat) < 2 ^ 63 := by rw [sizeLine_eq]; decide
theorem vals1 {x : V} {us : List Value} (r : Vals [x] us) : ∃ u, us = [u] ∧ RelV x u := by
  cases r with
  | cons r1 r2 => cases r2; exact ⟨_, rfl, r1⟩
theorem vals2 {x y : V} {us : List Value} (r : Vals [x, y] us) : ∃ u w', us = [u, w'] ∧ RelV x u ∧ RelV y w' := by
  cases r with
  | cons r1 r2 =>
    cases r2 with
    | cons r3 r4 => cases r4; exact ⟨_, _, rfl, r1, r3⟩
theorem call_max2 (hc : X.calm = true) : CallR X (.builtin "max") (fun xs H Q => ∃ i j, xs = [.int i, .int j] ∧ Q (.int (if j > i then j else i)) H) := by
  intro pins s σ H xs us Q I r h
  obtain ⟨i, j, rfl, q⟩ := h
  obtain ⟨u, w', rfl, ⟨t, rfl⟩, ⟨t', rfl⟩⟩ := vals2 r
  refine max_two_ints (I.ok.hd hc) fun h' tk k => ⟨_, H, I.kept k, ?_, q⟩
  by_cases hj : j > i
  · rw [if_pos hj, if_pos hj]; exact ⟨_, rfl⟩
  · rw [if_neg hj, if_neg hj]; exact ⟨_, rfl⟩
theorem call_min2 (hc : X.calm = true) : CallR X (.builtin "min") (fun xs H Q => ∃ i j, xs = [.int i, .int j] ∧ Q (.int (if j < i then j else i)) H) := by
  intro pins s σ H xs us Q I r h
  obtain ⟨i, j, rfl, q⟩ := h
  obtain ⟨u, w', rfl, ⟨t, rfl⟩, ⟨t', rfl⟩⟩ := vals2 r
  refine min_two_ints (I.ok.hd hc) fun h' tk k => ⟨_, H, I.kept k, ?_, q⟩
  by_cases hj : j < i
  · rw [if_pos hj, if_pos hj]; exact ⟨_, rfl⟩
  · rw [if_neg hj, if_neg hj]; exact ⟨_, rfl⟩
end
end L2
namespace L2
open PySem PySem.Spec PyProof.Rows
structure ObjM (h : Heap) (x dx C : Addr) (mA : Str → Option Value) : Prop where
  obj : h.get? x = some (PySem.W.instObj C dx)
  ns : h.Ns1 dx mA
  ne : dx ≠ x
theorem lookIn_ns {h : Heap} {dx : Addr} {mA : Str → Option Value} (n : h.Ns1 dx mA) : ∃ od, h.get? dx = some od ∧ ∀ name, PySem.W.lookIn name od = some (mA name) := by
  obtain ⟨o, es, ep, ho, hd, hk, _, hm⟩ := n
  refine ⟨o, ho, fun name => ?_⟩
  have e := hm name
  unfold nsFind findBy at e
  rw [← Array.find?_toList] at e
  unfold PySem.W.lookIn
  rw [hd]
  dsimp only
  split
  · rename_i y q
    rw [q] at e
    exact congrArg some e
  · rename_i q
    rw [q] at e
    have a : es.toList.any (·.refKey) = false := by
      rw [List.any_eq_false]
      intro y hy
      obtain ⟨z, t, hkey⟩ := hk y (Array.mem_toList_iff.mp hy)
      simp [DictEntry.refKey, hkey]
    have a' : ¬ es.toList.any (·.refKey) = true := by rw [a]; exact Bool.false_ne_true
    rw [if_neg a']
    exact congrArg some e
theorem ObjM.look {h : Heap} {x dx C : Addr} {mA : Str → Option Value} (I : ObjM h x dx C mA) : ∃ od, PySem.W.InstAt h x (PySem.W.instObj C dx) C (some od) ∧ ∀ name, PySem.W.lookIn name od = some (mA name) :=
  let ⟨od, ho, hl⟩ := lookIn_ns I.ns
  ⟨od, ⟨I.obj, rfl, rfl, ho⟩, hl⟩
section
variable {prog : Program} {w : World} {A : Around} {E : Value → Shared → Prop} {s : Shared} {K : PySem.W.Frag} {x dx C f : Addr} {mA : Str → Option Value} {name : Str} {v : Value}
theorem get_map {expr : Bool} {Q : Value → Shared → Prop} (X : K.In s.heap) (I : ObjM s.heap x dx C mA) (hg : PySem.W.plainGet K C name = true) (hh : PySem.W.hasDictIn K C = true)
    (ha : PySem.W.findIn K (.ref C) name = some none) (hv : mA name = some v) (hv' : PySem.W.handedIn v = true) (h : Q v { s with toks := s.toks + 1 }) :
    wpAny (model prog w) A (getAttr (.ref x) name expr) Q E s := by
  obtain ⟨od, J, hl⟩ := I.look
  exact PySem.W.get_value X J (PySem.W.plainGet_of hg).1 (PySem.W.findObj_own hh ha rfl (by rw [hl, hv])) hv' h
theorem set_map {ns : List Str} {Q : Unit → Shared → Prop} (X : K.In s.heap) (I : ObjM s.heap x dx C mA)
    (hs : PySem.W.findIn K (.ref C) "__setattr__" = some (some (.builtin "object.__setattr__"))) (hp : PySem.W.plainOver K C = true) (ht : PySem.W.takerIn K C name = some none) (hh : PySem.W.hasDictIn K C = true)
    (hw : PySem.Within mA ns) (hsz : ns.length ≤ sizeLine)
    (h : ∀ h', ObjM h' x dx C (fun y => if y = name then some v else mA y) → Heap.SameBut dx s.heap h' → Q () { s with heap := h', toks := s.toks + 2 }) :
    wpAny (model prog w) A (setAttr (.ref x) name v) Q E s := by
  obtain ⟨od, J, hl⟩ := I.look
  refine PySem.W.set_plain X J hs (PySem.W.osa_open (s := { s with toks := s.toks + 1 }) (r := none) X J hp ht fun b => ?_)
  obtain ⟨cd, hc, hd'⟩ := PySem.W.any_some hh
  have hx : s.heap.get? x = some ⟨.ref C, some dx, .plain, #[]⟩ := I.obj
  refine wpAny_bind (wpAny_pure (wpAny_bind (wpAny_bind (wpAny_loadPart hx (wpAny_bind (PySem.W.Looks.here (s := { s with toks := s.toks + 1 }) (PySem.W.looks_clsIn X hc) ?_))))))
  rw [hd']
  refine wpAny_pure (a := some dx) (wpAny_bind (wpAny_pure (wpAny_bind ?_)))
  refine wpAny_nsSet1 (s := { s with toks := s.toks + 1 }) I.ns fun h' hn2 hs2 => ?_
  obtain ⟨oD, esD, epD, hoD, hdD, hcD⟩ := hn2.count (PySem.Within.cons name v hw)
  refine wpAny_bind (wpAny_lookBehind hoD (by rw [hdD]; exact pastItsLine_dict (Nat.le_trans hcD (by rw [List.length_cons]; omega))) ?_)
  exact wpAny_pure (h _ ⟨(hs2.2 _ (Ne.symm I.ne)).trans I.obj, hn2, I.ne⟩ hs2)
theorem make_map {R : Result → Shared → Prop} {vs : List Value} {kw : List (Str × Value)} (X : K.In s.heap) (hm : PySem.W.makesIn K C = true)
    (hi : PySem.W.findIn K (.ref C) "__init__" = some (some (.ref f))) (hf : PySem.W.typeIn K (.ref f) = some (.type "function"))
    (h : codeAny (model prog w) (A.under (.builtin "type.__call__" ⟨.ref C :: vs, kw⟩)) (.call (.ref f) ⟨.ref (s.heap.objs.size + 1) :: vs, kw⟩) (PySem.W.InitBack (s.heap.objs.size + 1) R)
      { s with heap := (s.heap.push PySem.W.emptyDict).push (PySem.W.instObj C s.heap.objs.size) }) :
    codeAny (model prog w) A (.call (.ref C) ⟨vs, kw⟩) R s := by
  obtain ⟨hh, g, d, t, os⟩ := s
  exact PySem.W.make_core (PySem.W.makes_of X hm) (PySem.W.looks_findIn X hi) (fun self => PySem.W.bind_fn X self hf) (.inl rfl) h
end
def putF (f : Str) (v : V) : List (Str × V) → List (Str × V)
  | [] => [(f, v)]
  | (g, x) :: r => if g = f then (g, v) :: r else (g, x) :: putF f v r
theorem lookup_putF (f g : Str) (v : V) : ∀ fs : List (Str × V), (putF f v fs).lookup g = if g = f then some v else fs.lookup g
  | [] => by
    show List.lookup g [(f, v)] = _
    by_cases h : g = f
    · have hb : (g == f) = true := beq_iff_eq.mpr h
      simp only [List.lookup, hb, if_pos h]
    · have hb : (g == f) = false := beq_eq_false_iff_ne.mpr h
      simp only [List.lookup, hb, if_neg h]
  | (k, x) :: r => by
    have ih := lookup_putF f g v r
    rw [show putF f v ((k, x) :: r) = (if k = f then (k, v) :: r else (k, x) :: putF f v r) from rfl]
    by_cases hk : k = f
    · rw [if_pos hk]
      by_cases h : g = k
      · have hb : (g == k) = true := beq_iff_eq.mpr h
        simp only [List.lookup, hb, if_pos (h.trans hk)]
      · have hb : (g == k) = false := beq_eq_false_iff_ne.mpr h
        simp only [List.lookup, hb, if_neg (fun e : g = f => h (e.trans hk.symm))]
    · rw [if_neg hk]
      by_cases h : g = k
      · have hb : (g == k) = true := beq_iff_eq.mpr h
        simp only [List.lookup, hb, if_neg (fun e : g = f => hk (h.symm.trans e))]
      · have hb : (g == k) = false := beq_eq_false_iff_ne.mpr h
        simp only [List.lookup, hb]
        exact ih
theorem keys_putF (f : Str) (v : V) : ∀ fs : List (Str × V), f ∈ (putF f v fs).map (·.1) ∧ ∀ g, g ∈ fs.map (·.1) → g ∈ (putF f v fs).map (·.1)
  | [] => ⟨by simp [putF], fun g h => by simp at h⟩
  | (k, x) :: r => by
    obtain ⟨i1, i2⟩ := keys_putF f v r
    rw [show putF f v ((k, x) :: r) = (if k = f then (k, v) :: r else (k, x) :: putF f v r) from rfl]
    by_cases hk : k = f
    · rw [if_pos hk]
      subst hk
      exact ⟨by simp, fun g h => by simpa using h⟩
    · rw [if_neg hk]
      refine ⟨?_, fun g h => ?_⟩
      · rw [List.map_cons]
        exact List.mem_cons_of_mem _ i1
      · rw [List.map_cons] at h ⊢
        rcases List.mem_cons.mp h with e | e
        · exact List.mem_cons.mpr (.inl e)
        · exact List.mem_cons_of_mem _ (i2 g e)
theorem length_putF (f : Str) (v : V) : ∀ fs : List (Str × V), (putF f v fs).length ≤ fs.length + 1
  | [] => by simp [putF]
  | (k, x) :: r => by
    have ih := length_putF f v r
    rw [show putF f v ((k, x) :: r) = (if k = f then (k, v) :: r else (k, x) :: putF f v r) from rfl]
    by_cases hk : k = f
    · rw [if_pos hk, List.length_cons, List.length_cons]; omega
    · rw [if_neg hk, List.length_cons, List.length_cons]; omega
theorem RelO.some_of {v : V} {o : Option Value} (r : RelO (some v) o) : ∃ u, o = some u ∧ RelV v u := by
  cases o with
  | none => exact (show False from r).elim
  | some u => exact ⟨u, rfl, r⟩
theorem handed_of {v : V} {u : Value} (r : RelV v u) : PySem.W.handedIn u = true := by
  cases v with
  | non => cases (show u = Value.none from r); rfl
  | bl b => cases (show u = Value.bool b from r); rfl
  | int i => obtain ⟨t, e⟩ := (show ∃ t, u = Value.int i t from r); cases e; rfl
  | str x => obtain ⟨t, e⟩ := (show ∃ t, u = Value.str x t from r); cases e; rfl
  | byt b => obtain ⟨t, e⟩ := (show ∃ t, u = Value.bytes b t from r); cases e; rfl
  | flt b => obtain ⟨t, e⟩ := (show ∃ t, u = Value.float b t from r); cases e; rfl
  | ref a => cases (show u = Value.ref a from r); rfl
  | ty n => cases (show u = Value.type n from r); rfl
section
variable {P : Program} {w : World} {H H' : Hp} {h h' : Heap} {a C dx : Addr} {fs fs' : List (Str × V)}
theorem ins_get (hok : HOk P w H h) (e : H a = some (.ins C dx fs)) : ∃ mA, ObjM h a dx C mA ∧ (∀ f, RelO (fs.lookup f) (mA f)) ∧ PySem.Within mA (fs.map (·.1)) ∧ fs.length ≤ 1000 ∧ H dx = some (.own a) := by
  obtain ⟨d, z, ne, ob, mA, n, r, q⟩ := (show ObjOk P w H h a (.ins C dx fs) from hok a _ e)
  exact ⟨mA, ⟨ob, n, ne⟩, r, q, z, d⟩
end
structure Cls (K : PySem.W.Frag) (C : Addr) : Prop where
  pg : PySem.W.plainGet K C Str.empty = true
  hd : PySem.W.hasDictIn K C = true
  po : PySem.W.plainOver K C = true
  sa : PySem.W.findIn K (.ref C) "__setattr__" = some (some (.builtin "object.__setattr__"))
theorem Cls.get {K : PySem.W.Frag} {C : Addr} (c : Cls K C) (f : Str) : PySem.W.plainGet K C f = true := c.pg
def NoAttr (K : PySem.W.Frag) (C : Addr) (f : Str) : Prop := PySem.W.findIn K (.ref C) f = some none
theorem NoAttr.taker {K : PySem.W.Frag} {C : Addr} {f : Str} (n : NoAttr K C f) : PySem.W.takerIn K C f = some none := by
  unfold PySem.W.takerIn
  rw [show PySem.W.findIn K (.ref C) f = some none from n]
  rfl
section
variable {X : Cx} {pins : List (Addr × Obj)} {σ : St} {H : Hp} {s : Shared} {a C dx : Addr} {fs : List (Str × V)} {f : Str} {v : V} {A : Around} {E : Value → Shared → Prop}
theorem getattr_ok {b : Bool} {Q : Value → Shared → Prop} (I : Inv X pins σ H s) (e : H a = some (.ins C dx fs)) (c : Cls X.K C) (n : NoAttr X.K C f) (l : fs.lookup f = some v)
    (h : ∀ u s', Inv X pins σ H s' → RelV v u → Q u s') : wpAny (model X.prog X.w) A (getAttr (.ref a) f b) Q E s := by
  obtain ⟨mA, O, r, _, _, _⟩ := ins_get I.hok e
  obtain ⟨u, hu, ru⟩ := RelO.some_of (v := v) (o := mA f) (by rw [← l]; exact r f)
  exact get_map I.kIn O (c.get f) c.hd n hu (handed_of ru) (h u _ (I.tok _) ru)
theorem setattr_ok {y : V} {u : Value} {Q : Unit → Shared → Prop} (I : Inv X pins σ H s) (e : H a = some (.ins C dx fs)) (c : Cls X.K C) (n : NoAttr X.K C f) (hl : fs.length < 1000) (ry : RelV y u)
    (h : ∀ s', Inv X pins σ (upd H a (.ins C dx (putF f y fs))) s' → Q () s') : wpAny (model X.prog X.w) A (setAttr (.ref a) f u) Q E s := by
  obtain ⟨mA, O, r, wi, _, ho⟩ := ins_get I.hok e
  have hz : (fs.map (·.1)).length ≤ sizeLine := by rw [List.length_map, sizeLine_eq]; omega
  refine set_map I.kIn O c.sa c.po n.taker c.hd wi hz fun h' O' sb => h _ ?_
  have hd : ∃ o, h'.get? dx = some o := let ⟨o, _, _, e', _⟩ := O'.ns; ⟨o, e'⟩
  refine I.write (x := a) (e := dx) (by rw [e]; exact True.intro) (.inr ho) (fun b q hb z => (sb.2 b hb).trans z) hd ?_
  refine ⟨by rw [upd_ne O.ne]; exact ho, ?_, O.ne, O'.obj, _, O'.ns, fun g => ?_, fun g hg => ?_⟩
  · have := length_putF f y fs; omega
  · show RelO ((putF f y fs).lookup g) (if g = f then some u else mA g)
    rw [lookup_putF]
    by_cases q : g = f
    · rw [if_pos q, if_pos q]; exact ry
    · rw [if_neg q, if_neg q]; exact r g
  · by_cases q : g = f
    · rw [q]; exact (keys_putF f y fs).1
    · refine (keys_putF f y fs).2 g (wi g fun z => hg ?_)
      show (if g = f then some u else mA g) = none
      rw [if_neg q]; exact z
theorem Inv.made (I : Inv X pins σ H s) : Inv X pins σ (upd (upd H s.heap.objs.size (.own (s.heap.objs.size + 1))) (s.heap.objs.size + 1) (.ins C s.heap.objs.size []))
    { s with heap := (s.heap.push PySem.W.emptyDict).push (PySem.W.instObj C s.heap.objs.size) } := by
  have e1 : (s.heap.push PySem.W.emptyDict).get? s.heap.objs.size = some PySem.W.emptyDict := Heap.get?_push_size s.heap rfl
  have e2 : ((s.heap.push PySem.W.emptyDict).push (PySem.W.instObj C s.heap.objs.size)).get? (s.heap.objs.size + 1) = some (PySem.W.instObj C s.heap.objs.size) := by
    have := Heap.get?_push_size (s.heap.push PySem.W.emptyDict) (o := PySem.W.instObj C s.heap.objs.size) rfl
    rwa [Heap.size_push] at this
  have e3 : (s.heap.push PySem.W.emptyDict).Ns s.heap.objs.size (fun _ => none) := ⟨PySem.W.emptyDict, #[], _, e1, rfl, (fun e he => absurd he (by simp)), fun _ => rfl⟩
  have I1 := I.laid (a := s.heap.objs.size) (o := .own (s.heap.objs.size + 1)) (h' := s.heap.push PySem.W.emptyDict) (t' := s.toks) (fun b u q => Heap.get?_push_of_some _ q) (Nat.le_refl _) ⟨_, e1⟩
  refine I1.laid (a := s.heap.objs.size + 1) (o := .ins C s.heap.objs.size []) (t' := s.toks) (fun b u q => Heap.get?_push_of_some _ q) (Nat.le_of_eq (Heap.size_push _ _)) ?_
  have ne : s.heap.objs.size ≠ s.heap.objs.size + 1 := Nat.ne_of_lt (Nat.lt_succ_self _)
  refine ⟨by rw [upd_ne ne, upd_same], Nat.zero_le _, ne, e2, fun _ => none, (Heap.Ns1.of_empty e3).at fun o q => Heap.get?_push_of_some _ q, fun _ => True.intro, fun y hy => absurd rfl hy⟩
theorem attr_of {prog : Program} {w : World} {env : Env} {e : Expr} {f : Str} {pos : Pos} {s : Shared} {Q : Value → Shared → Prop} (hb : attributeBase e f env (eval e env) = eval e env)
    (h : wpAny (model prog w) A (eval e env) (fun o s₁ => wpAny (model prog w) A (getAttr o f true) Q E s₁) E s) : wpAny (model prog w) A (eval (.Attribute e f pos) env) Q E s :=
  Attribute_any_ h (by rw [arm_eval_Attribute, hb])
end
def tFld (K : PySem.W.Frag) (ta : TE) (f : Str) : TE := fun σ H Q => ta σ H fun x H1 => ∃ a C dx fs v, x = .ref a ∧ H1 a = some (.ins C dx fs) ∧ Cls K C ∧ NoAttr K C f ∧ fs.lookup f = some v ∧ Q v H1
def sFld (K : PySem.W.Frag) (ta tv : TE) (f : Str) : TS := fun D σ H => tv σ H fun y H1 => ta σ H1 fun x H2 => ∃ a C dx fs, x = .ref a ∧ H2 a = some (.ins C dx fs) ∧ Cls K C ∧ NoAttr K C f ∧ fs.length < 1000 ∧
  D.nx σ (upd H2 a (.ins C dx (putF f y fs)))
section
variable {X : Cx} {o e value : Expr} {f : Str} {pos pos' tpos : Pos} {ta tv : TE}
theorem pe_fld (he : PE X e ta) (hb : attributeBase e f X.env (eval e X.env) = eval e X.env) : PE X (.Attribute e f pos) (tFld X.K ta f) := by
  intro pins s σ H Q I h
  refine attr_of hb (thn (he pins s σ H _ I h) fun u s1 ⟨x, H1, I1, rx, a, C, dx, fs, v, ex, ea, c, n, l, q⟩ => ?_)
  subst ex
  obtain rfl : u = Value.ref a := rx
  exact getattr_ok I1 ea c n l fun u' s2 I2 ru => ⟨v, H1, I2, ru, q⟩
theorem ps_fld (ha : PE X o ta) (hv : PE X value tv) (hs : swapsWith value (some (.Attribute o f pos')) pos.line X.env = pure false) : PS X (.Assign [.Attribute o f pos'] value pos) (sFld X.K ta tv f) := by
  intro pins s σ H D I h
  refine plainObj_wpAny_Assign_Attribute (thn (hv pins s σ H _ I h) fun u s1 ⟨y, H1, I1, ry, q⟩ => thn (ha pins s1 σ H1 _ I1 q) fun ov s2 ⟨x, H2, I2, rx, a, C, dx, fs, ex, ea, c, n, l, q2⟩ => ?_) hs
  subst ex
  obtain rfl : ov = Value.ref a := rx
  exact setattr_ok I2 ea c n l ry fun s3 I3 => ⟨σ, _, I3, q2⟩
end
end L2
namespace L2
open PySem PySem.Spec PyProof.Rows
structure Room (k : Nat) (A : Around) : Prop where
  hd : A.handled = none
  dp : A.depth + 3 * k + 5 < recursionLimit
  un : A.units + 16 * k + 200 < cLine
theorem Room.mono {j k : Nat} {A : Around} (r : Room k A) (h : j ≤ k) : Room j A := ⟨r.hd, by have := r.dp; omega, by have := r.un; omega⟩
theorem Room.deeper {k : Nat} {A : Around} (r : Room (k + 1) A) (env : Env) : Room k (A.deeper env) :=
  ⟨r.hd, by have := r.dp; show A.depth + 1 + 3 * k + 5 < _; omega, by have := r.un; show A.units + 3 + 16 * k + 200 < _; omega⟩
theorem make_depth {A : Around} {C : Addr} {us : List Value} {kw : List (Str × Value)} : (A.under (.builtin "type.__call__" ⟨.ref C :: us, kw⟩)).depth = A.depth + 1 := by
  first | rfl | simp [Around.under, Code.weight, Code.isCreation, Code.isGuard, Code.isCaller, Code.frames, Code.isFrame, guardIds]
theorem make_units {A : Around} {C : Addr} {us : List Value} {kw : List (Str × Value)} : (A.under (.builtin "type.__call__" ⟨.ref C :: us, kw⟩)).units = A.units + 1 := by
  first | rfl | simp [Around.under, Code.cUnits, Code.frames, Code.isFrame]
theorem Room.make {k : Nat} {A : Around} (r : Room (k + 1) A) (C : Addr) (us : List Value) (kw : List (Str × Value)) : Room k (A.under (.builtin "type.__call__" ⟨.ref C :: us, kw⟩)) :=
  ⟨r.hd, by have := r.dp; rw [make_depth]; omega, by have := r.un; rw [make_units]; omega⟩
theorem Room.depth {k : Nat} {A : Around} (r : Room k A) : A.depth < recursionLimit := by have := r.dp; omega
theorem Room.units {k : Nat} {A : Around} (r : Room k A) : A.units + 64 < cLine := by have := r.un; omega
def tNil : TA := fun _ H Q => Q [] H
def tCons (ta : TE) (tr : TA) : TA := fun σ H Q => ta σ H fun x H1 => tr σ H1 fun xs H2 => Q (x :: xs) H2
section
variable {X : Cx} {e : Expr} {es : List Expr} {te : TE} {t : TA} {pos : Pos}
theorem pa_nil : PA X [] tNil := fun _ _ _ _ H Q I h => Calls.spliced_nil ⟨[], H, I, .nil, h⟩
theorem pa_cons (ha : PE X e te) (hr : PA X es t) (hs : starEach (e :: es) X.env = (false, eval e X.env) :: starEach es X.env := by rfl) : PA X (e :: es) (tCons te t) := by
  intro pos pins s σ H Q I h
  rw [hs]
  show wpAny _ _ (spliced ((false, eval e X.env) :: backTo pos (starEach es X.env))) _ _ s
  refine Calls.spliced_cons (thn (ha pins s σ H _ I h) fun u s1 ⟨x, H1, I1, r1, q1⟩ => ?_)
  exact thn (hr pos pins s1 σ H1 _ I1 q1) fun us s2 ⟨xs, H2, I2, r2, q2⟩ => ⟨x :: xs, H2, I2, .cons r1 r2, q2⟩
def tTup (t : TA) : TE := fun σ H Q => t σ H fun xs H1 => xs.length ≤ sizeLine ∧ ∀ p, H1 p = none → Q (.ref p) (upd H1 p (.tup xs))
def tLst (t : TA) : TE := fun σ H Q => t σ H fun xs H1 => xs.length ≤ sizeLine ∧ ∀ p, H1 p = none → Q (.ref p) (upd H1 p (.lst xs))
theorem pe_tup {x1} (h : PA X es t) : PE X (.Tuple es x1 pos) (tTup t) := by
  intro pins s σ H Q I hq
  refine wpAny_Tuple_spliced (thn (h pos pins s σ H _ I hq) fun us s1 ⟨xs, H1, I1, r, z, q⟩ => ⟨by rw [← r.length]; exact z, ?_⟩)
  have hf : H1 s1.heap.objs.size = none := I1.hok.fresh (Nat.le_refl _)
  refine ⟨.ref s1.heap.objs.size, upd H1 s1.heap.objs.size (.tup xs), I1.laid (t' := s1.toks) (fun b u e => Heap.get?_push_of_some _ e) (Nat.le_refl _) ?_, rfl, q _ hf⟩
  exact ⟨z, us, r, ⟨_, Heap.get?_push_size _ rfl, rfl, _, rfl⟩⟩
theorem pe_lst (h : PA X es t) : PE X (.List es pos) (tLst t) := by
  intro pins s σ H Q I hq
  refine wpAny_List_spliced (thn (h pos pins s σ H _ I hq) fun us s1 ⟨xs, H1, I1, r, z, q⟩ => ⟨by rw [← r.length]; exact z, ?_⟩)
  have hf : H1 s1.heap.objs.size = none := I1.hok.fresh (Nat.le_refl _)
  refine ⟨.ref s1.heap.objs.size, upd H1 s1.heap.objs.size (.lst xs), I1.laid (t' := s1.toks) (fun b u e => Heap.get?_push_of_some _ e) (Nat.le_refl _) ?_, rfl, q _ hf⟩
  exact ⟨z, us, 0, r, Heap.get?_push_size _ rfl⟩
end
abbrev Sp := List V → Hp → VK → XK → Prop
abbrev CXT := List Env → Hp → Shared → XK → Value → Shared → Prop
structure Env0 (P : Program) (w : World) (K : PySem.W.Frag) (mg : Str → Option Value) (base : Heap) (A : Around) (outer : List Env) (s : Shared) (H : Hp) : Prop where
  frames : A.frames = some outer
  mod : Mod K mg base
  bs : ∀ b o, base.get? b = some o → s.heap.get? b = some o ∧ H b = none
  bsz : base.objs.size ≤ s.heap.objs.size
  funs : s.heap.FunFrames base outer
  frf : ∀ b ∈ frs outer, H b = none
  hok : HOk P w H s.heap
  bare : AllBare s.gens
def CE (outer : List Env) (P : Program) (w : World) (H : Hp) (s : Shared) (Q : VK) (u : Value) (s' : Shared) : Prop :=
  ∃ v H', s'.os = s.os ∧ AllBare s'.gens ∧ Un (frs outer) [] H H' s.heap s'.heap ∧ HOk P w H' s'.heap ∧ RelV v u ∧ Q v H'
def CR (CX : CXT) (outer : List Env) (P : Program) (w : World) (H : Hp) (s : Shared) (Q : VK) (E : XK) (r : Result) (s' : Shared) : Prop :=
  match r with
  | .ok (.ret u) => CE outer P w H s Q u s'
  | .ok _ => False
  | .error e => CX outer H s E e s'
structure FnOk (P : Program) (w : World) (K : PySem.W.Frag) (mg : Str → Option Value) (base : Heap) (CX : CXT) (k : Nat) (f : Addr) (fd : FuncData) (ps : List Str) (sp : Sp) : Prop where
  len : ∀ vs H Q E, sp vs H Q E → vs.length = ps.length
  run : ∀ (A : Around) (outer : List Env) (s : Shared) (H : Hp) (args : Args) (us : List Value) (vs : List V) (Q : VK) (E : XK), Room k A → Env0 P w K mg base A outer s H → BindsTo s fd args (ps.zip us) → Vals vs us → sp vs H Q E →
    codeAny (model P w) A (.call (.ref f) args) (CR CX outer P w H s Q E) s
theorem FnOk.mono {P : Program} {w : World} {K : PySem.W.Frag} {mg : Str → Option Value} {base : Heap} {CX : CXT} {j k : Nat} {f : Addr} {fd : FuncData} {ps : List Str} {sp : Sp} (F : FnOk P w K mg base CX j f fd ps sp) (h : j ≤ k) :
    FnOk P w K mg base CX k f fd ps sp := ⟨F.len, fun A outer s H args us vs Q E hr => F.run A outer s H args us vs Q E (hr.mono h)⟩
theorem Env0.make {P : Program} {w : World} {K : PySem.W.Frag} {mg : Str → Option Value} {base : Heap} {A : Around} {outer : List Env} {s : Shared} {H : Hp} (e : Env0 P w K mg base A outer s H) (C : Addr) (us : List Value) (kw : List (Str × Value)) :
    Env0 P w K mg base (A.under (.builtin "type.__call__" ⟨.ref C :: us, kw⟩)) outer s H := ⟨by first | exact e.frames | (simpa [Around.under, Code.envs, Code.isFrame, pushEnvs] using e.frames), e.mod, e.bs, e.bsz, e.funs, e.frf, e.hok, e.bare⟩
section
variable {X : Cx} {pins : List (Addr × Obj)} {σ : St} {H : Hp} {s s' : Shared}
theorem Inv.env0 (I : Inv X pins σ H s) : Env0 X.prog X.w X.K X.mg X.base X.A X.stack s H :=
  ⟨I.ok.frames, I.ok.mod, I.bs, Nat.le_trans I.ok.bsz I.sz, I.stack, I.stkFree, I.hok, I.bare⟩
theorem Inv.after {Q : VK} {u : Value} (I : Inv X pins σ H s) (h : CE X.stack X.prog X.w H s Q u s') : EP X pins σ Q u s' := by
  obtain ⟨v, H', os, bare, un, hok, r, q⟩ := h
  obtain ⟨hh, g, d, t, os'⟩ := s'
  obtain rfl : os' = s.os := os
  exact ⟨v, H', I.call (h' := hh) (g' := g) (d' := d) (t' := t) (ch := []) un hok bare (fun b z => absurd z (by simp)), r, q⟩
end
def tCall (sp : Sp) (dvs : List V) (E : XK) (t : TA) : TE := fun σ H Q => t σ H fun vs H1 => sp (vs ++ dvs) H1 Q E
def tMake (C : Addr) (sp : Sp) (dvs : List V) (E : XK) (t : TA) : TE := fun σ H Q => t σ H fun vs H1 => ∀ x dx, H1 x = none → H1 dx = none → dx ≠ x →
  sp (.ref x :: (vs ++ dvs)) (upd (upd H1 dx (.own x)) x (.ins C dx [])) (fun v H2 => v = .non ∧ Q (.ref x) H2) E
def Binds (K : PySem.W.Frag) (fd : FuncData) (ps : List Str) (ds : List Value) : Prop :=
  ∀ (s : Shared) (us : List Value), K.In s.heap → (us ++ ds).length = ps.length → BindsTo s fd ⟨us, []⟩ (ps.zip (us ++ ds))
theorem Binds.all {K : PySem.W.Frag} {fd : FuncData} {ps : List Str} (h : ∀ us : List Value, us.length = ps.length → bindArgs fd ⟨us, []⟩ = pure (ps.zip us)) : Binds K fd ps [] := fun s us _ hl => by
  rw [List.append_nil] at hl ⊢
  exact .of_eq (h us hl)
def Passes (CX : CXT) (X : Cx) (E : XK) : Prop := ∀ (pins : List (Addr × Obj)) (σ : St) (H : Hp) (s : Shared) (e : Value) (s' : Shared), Inv X pins σ H s → CX X.stack H s E e s' → X.xe e s'
section
variable {X : Cx} {CX : CXT} {k : Nat} {f C : Addr} {fd : FuncData} {ps : List Str} {sp : Sp} {dvs : List V} {ds : List Value} {E : XK} {x m : Str} {p pos apos : Pos} {e o : Expr} {es : List Expr} {ta : TE} {t : TA}
theorem run_fn {pins : List (Addr × Obj)} {σ : St} {H : Hp} {s : Shared} {Q : VK} {us : List Value} {vs : List V} (F : FnOk X.prog X.w X.K X.mg X.base CX k f fd ps sp) (hr : Room k X.A) (hb : Binds X.K fd ps ds) (hd : Vals dvs ds) (hx : Passes CX X E)
    (I : Inv X pins σ H s) (r : Vals vs us) (h : sp (vs ++ dvs) H Q E) : wpAny (model X.prog X.w) X.A (call (.ref f) us) (EP X pins σ Q) X.xe s := by
  have r2 : Vals (vs ++ dvs) (us ++ ds) := r.append hd
  have hl : (us ++ ds).length = ps.length := by rw [← r2.length]; exact F.len _ _ _ _ h
  refine wpAny_call (codeAny_mono (F.run X.A X.stack s H ⟨us, []⟩ (us ++ ds) (vs ++ dvs) Q E hr I.env0 (hb s us I.kIn hl) r2 h) fun r s' hq => ?_)
  cases r with
  | error e => exact hx pins σ H s e s' I hq
  | ok fl =>
    cases fl with
    | ret u => exact I.after hq
    | next => exact False.elim hq
    | brk => exact False.elim hq
    | cont => exact False.elim hq
theorem pe_call (F : FnOk X.prog X.w X.K X.mg X.base CX k f fd ps sp) (hr : Room k X.A) (hg : Gl X x) (hm : X.mg x = some (.ref f)) (hk : PySem.W.keepIn X.K (.ref f) = true) (hb : Binds X.K fd ps ds) (hd : Vals dvs ds) (hx : Passes CX X E)
    (ha : PA X (e :: es) t) (hdb : (x == ("__debug__" : Str)) = false := by decide) (he : starEach (e :: es) X.env = (false, eval e X.env) :: starEach es X.env := by rfl) (hpl : (backTo pos (starEach es X.env)).any (·.1) = false := by rfl) :
    PE X (.Call (.Name x p) (e :: es) [] pos) (tCall sp dvs E t) := by
  intro pins s σ H Q I h
  refine wpAny_Call_Name_kw (ld_glob I hg hm ?_ hdb)
  refine PySem.W.callWith_K (h₀ := X.base) I.ok.mod.kin hk (thn (ha pos pins s σ H _ I h) fun us s1 ⟨vs, H1, I1, r, q⟩ => ⟨I1.kIn, ?_⟩) he hpl
  exact run_fn F hr hb hd hx I1 r q
structure Mk (K : PySem.W.Frag) (C f : Addr) : Prop where
  makes : PySem.W.makesIn K C = true
  init : PySem.W.findIn K (.ref C) "__init__" = some (some (.ref f))
  fn : PySem.W.isFn K (.ref f) = true
  kp : PySem.W.keepIn K (.ref C) = true
theorem run_make {pins : List (Addr × Obj)} {σ : St} {H : Hp} {s : Shared} {Q : VK} {us : List Value} {vs : List V} (M : Mk X.K C f) (F : FnOk X.prog X.w X.K X.mg X.base CX k f fd ps sp) (hr : Room (k + 1) X.A) (hb : Binds X.K fd ps ds) (hd : Vals dvs ds)
    (hx : Passes CX X E) (I : Inv X pins σ H s) (r : Vals vs us)
    (h : ∀ x dx, H x = none → H dx = none → dx ≠ x → sp (.ref x :: (vs ++ dvs)) (upd (upd H dx (.own x)) x (.ins C dx [])) (fun v H2 => v = .non ∧ Q (.ref x) H2) E) :
    wpAny (model X.prog X.w) X.A (call (.ref C) us) (EP X pins σ Q) X.xe s := by
  have hq := h (s.heap.objs.size + 1) s.heap.objs.size (I.hok.fresh (Nat.le_succ _)) (I.hok.fresh (Nat.le_refl _)) (Nat.ne_of_lt (Nat.lt_succ_self _))
  have I2 := Inv.made (C := C) I
  have r2 : Vals (V.ref (s.heap.objs.size + 1) :: (vs ++ dvs)) (Value.ref (s.heap.objs.size + 1) :: (us ++ ds)) := .cons rfl (r.append hd)
  have hl : (Value.ref (s.heap.objs.size + 1) :: us ++ ds).length = ps.length := by
    have e := r2.length
    rw [F.len _ _ _ _ hq] at e
    exact e.symm
  refine wpAny_call (make_map (f := f) I.kIn M.makes M.init (beq_iff_eq.mp M.fn) (codeAny_mono (F.run _ X.stack _ _ ⟨Value.ref (s.heap.objs.size + 1) :: us, []⟩ (Value.ref (s.heap.objs.size + 1) :: (us ++ ds)) _ _ E (hr.make C us [])
    (I2.env0.make C us []) (hb _ (Value.ref (s.heap.objs.size + 1) :: us) I2.kIn hl) r2 hq) fun r s' hq' => ?_))
  cases r with
  | error e => exact hx pins σ _ _ e s' I2 hq'
  | ok fl =>
    cases fl with
    | ret u =>
      obtain ⟨v, H', I3, rv, ev, q3⟩ := I2.after hq'
      subst ev
      exact ⟨rv, ⟨V.ref (s.heap.objs.size + 1), H', I3, rfl, q3⟩⟩
    | next => exact False.elim hq'
    | brk => exact False.elim hq'
    | cont => exact False.elim hq'
theorem pe_make (M : Mk X.K C f) (F : FnOk X.prog X.w X.K X.mg X.base CX k f fd ps sp) (hr : Room (k + 1) X.A) (hg : Gl X x) (hm : X.mg x = some (.ref C)) (hb : Binds X.K fd ps ds) (hd : Vals dvs ds) (hx : Passes CX X E)
    (ha : PA X (e :: es) t) (hdb : (x == ("__debug__" : Str)) = false := by decide) (he : starEach (e :: es) X.env = (false, eval e X.env) :: starEach es X.env := by rfl) (hpl : (backTo pos (starEach es X.env)).any (·.1) = false := by rfl) :
    PE X (.Call (.Name x p) (e :: es) [] pos) (tMake C sp dvs E t) := by
  intro pins s σ H Q I h
  refine wpAny_Call_Name_kw (ld_glob I hg hm ?_ hdb)
  refine PySem.W.callWith_K (h₀ := X.base) I.ok.mod.kin M.kp (thn (ha pos pins s σ H _ I h) fun us s1 ⟨vs, H1, I1, r, q⟩ => ⟨I1.kIn, ?_⟩) he hpl
  exact run_make M F hr hb hd hx I1 r q
theorem pe_make0 (M : Mk X.K C f) (F : FnOk X.prog X.w X.K X.mg X.base CX k f fd ps sp) (hr : Room (k + 1) X.A) (hg : Gl X x) (hm : X.mg x = some (.ref C)) (hb : Binds X.K fd ps ds) (hd : Vals dvs ds) (hx : Passes CX X E)
    (hdb : (x == ("__debug__" : Str)) = false := by decide) : PE X (.Call (.Name x p) [] [] pos) (tMake C sp dvs E tNil) := by
  intro pins s σ H Q I h
  refine wpAny_Call_Name_kw (ld_glob I hg hm ?_ hdb)
  exact PySem.W.callWith_K0 I.kIn M.kp (run_make (us := []) M F hr hb hd hx I .nil h)
end
structure FnScope (N P : List Str) (sc : Scope) : Prop where
  kind : sc.kind = .function
  co : sc.isCoroutine = false
  gen : sc.isGenerator = false
  nd : N.Nodup
  pre : N.take P.length = P
  par : ∀ x ∈ P, sc.names.lookup x = some .local ∨ sc.names.lookup x = some .cell
  nofree : ∀ y ∈ sc.names, y.2 ≠ .free
theorem bindL_out {kindOf : Str → Option NameKind} {x : Str} : ∀ {binds : List (Str × Value)} {m : Str → Option Value}, (∀ v, (x, v) ∉ binds) → bindL kindOf binds m x = m x
  | [], _, _ => rfl
  | (n, v) :: r, m, h => by
    unfold bindL
    rw [bindL_out fun w hw => h w (List.mem_cons_of_mem _ hw)]
    split
    · have : x ≠ n := by rintro rfl; exact h v List.mem_cons_self
      simp [this]
    · rfl
theorem bindC_out {kindOf : Str → Option NameKind} {x : Str} : ∀ {binds : List (Str × Value)} {m : Str → Option Value}, (∀ v, (x, v) ∉ binds) → bindC kindOf binds m x = m x
  | [], _, _ => rfl
  | (n, v) :: r, m, h => by
    unfold bindC
    rw [bindC_out fun w hw => h w (List.mem_cons_of_mem _ hw)]
    split
    · rfl
    · have : x ≠ n := by rintro rfl; exact h v List.mem_cons_self
      simp [this]
theorem bindL_get {kindOf : Str → Option NameKind} {x : Str} {v : Value} : ∀ {P : List Str} {vs : List Value} {i : Nat} {m : Str → Option Value}, P.Nodup → P[i]? = some x → vs[i]? = some v → kindOf x = some .local →
    bindL kindOf (P.zip vs) m x = some v
  | [], _, _, _, _, h, _, _ => by simp at h
  | _ :: _, [], _, _, _, _, h, _ => by simp at h
  | p :: P, w :: vs, 0, m, nd, h1, h2, hk => by
    simp at h1 h2; subst h1; subst h2
    show bindL kindOf ((p, w) :: P.zip vs) m p = _
    unfold bindL
    rw [bindL_out fun v hv => (List.nodup_cons.mp nd).1 (List.of_mem_zip hv).1, if_pos hk]
    simp
  | p :: P, w :: vs, i + 1, m, nd, h1, h2, hk => by
    show bindL kindOf ((p, w) :: P.zip vs) m x = _
    unfold bindL
    exact bindL_get (i := i) (List.nodup_cons.mp nd).2 (by simpa using h1) (by simpa using h2) hk
theorem bindC_get {kindOf : Str → Option NameKind} {x : Str} {v : Value} : ∀ {P : List Str} {vs : List Value} {i : Nat} {m : Str → Option Value}, P.Nodup → P[i]? = some x → vs[i]? = some v → kindOf x ≠ some .local →
    bindC kindOf (P.zip vs) m x = some v
  | [], _, _, _, _, h, _, _ => by simp at h
  | _ :: _, [], _, _, _, _, h, _ => by simp at h
  | p :: P, w :: vs, 0, m, nd, h1, h2, hk => by
    simp at h1 h2; subst h1; subst h2
    show bindC kindOf ((p, w) :: P.zip vs) m p = _
    unfold bindC
    rw [bindC_out fun v hv => (List.nodup_cons.mp nd).1 (List.of_mem_zip hv).1, if_neg hk]
    simp
  | p :: P, w :: vs, i + 1, m, nd, h1, h2, hk => by
    show bindC kindOf ((p, w) :: P.zip vs) m x = _
    unfold bindC
    exact bindC_get (i := i) (List.nodup_cons.mp nd).2 (by simpa using h1) (by simpa using h2) hk
def start (N : List Str) (vs : List V) : St := vs.map some ++ List.replicate (N.length - vs.length) none
def cxOf (CX : CXT) (P : Program) (w : World) (K : PySem.W.Frag) (mg : Str → Option Value) (base : Heap) (N : List Str) (qual : Str) (scope : Scope) (f : Addr) (cd : Value) (A : Around) (outer : List Env) (s : Shared) (H : Hp) (E : XK) : Cx where
  prog := P
  w := w
  K := K
  mg := mg
  base := base
  A := A.deeper (envOfC qual scope s.heap.objs.size f cd)
  N := N
  s₀ := s
  H₀ := H
  env := envOfC qual scope s.heap.objs.size f cd
  outer := outer
  stack := envOfC qual scope s.heap.objs.size f cd :: outer
  ex := []
  calm := true
  fn := fun _ => true
  pn := []
  xe := fun e s' => wpAny (model P w) (A.deeper (envOfC qual scope s.heap.objs.size f cd)) (leaving (envOfC qual scope s.heap.objs.size f cd) e) (fun _ s'' => CX outer H s E e s'') (fun e' s'' => CX outer H s E e' s'') s'
theorem cell_has {sc : Scope} {n : Nat} {x : Str} (h : sc.names.lookup x = some .cell) : ∃ c, (cellsFrom n sc.names []).lookup x = some c := by
  have q := PySem.W.cellsFrom_some sc.names n [] (.inl h)
  exact Option.isSome_iff_exists.mp q
theorem inv_start {CX : CXT} {P : Program} {w : World} {K : PySem.W.Frag} {mg : Str → Option Value} {base : Heap} {N ps : List Str} {qual : Str} {scope : Scope} {f : Addr} {cd : Value} {A : Around} {outer : List Env} {s s1 : Shared} {H : Hp} {E : XK} {us : List Value} {vs : List V}
    (S : FnScope N ps scope) (hd : A.handled = none) (e0 : Env0 P w K mg base A outer s H) (hl : vs.length = ps.length) (r : Vals vs us)
    (x : InCallC s s.heap.objs.size (bindL (envOfC qual scope s.heap.objs.size f cd).kindOf (ps.zip us) fun _ => none) (cellsFrom (s.heap.objs.size + 1) scope.names []) (bindC (envOfC qual scope s.heap.objs.size f cd).kindOf (ps.zip us) fun _ => none) s1) :
    Inv (cxOf CX P w K mg base N qual scope f cd A outer s H E) [] (start N vs) H s1 := by
  have hpl : ps.length ≤ N.length := by have := congrArg List.length S.pre; rw [List.length_take] at this; omega
  obtain ⟨h1, tk, rfl, hk⟩ := x.done
  have noA : ∀ b : Addr, b ∉ (cxOf CX P w K mg base N qual scope f cd A outer s H E).ex := fun b z => absurd (show b ∈ ([] : List Addr) from z) (by simp)
  refine ⟨⟨e0.mod, S.kind, rfl, rfl, Nat.le_refl _, fun y z c h1 h2 => ?_, fun y hy => ?_, fun y c _ h => ?_, fun _ => hd, Around.frames_deeper e0.frames, .inr ⟨rfl, rfl⟩, fun b z => absurd z (noA b), e0.bs, e0.bsz, fun b _ _ => noA b, fun b z => absurd z (noA b), e0.funs, e0.frf⟩,
    rfl, e0.bare, Un.kept hk, ⟨_, x.toInCall.ns, fun i y v h1 h2 h3 => ?_⟩, fun y c h => ⟨_, x.cell y c h⟩, e0.hok.fresh (Nat.le_refl _), fun y c h => ?_, fun p hp => absurd (show p ∈ ([] : List (Addr × Obj)) from hp) (by simp), e0.hok.kept hk, ?_⟩
  · exact name_of_addr x.apart (PySem.mem_of_lookup h1) (PySem.mem_of_lookup h2)
  · have hy : scope.names.lookup y = some .cell ∨ scope.names.lookup y = some .free := hy
    rcases hy with hy | hy
    · exact cell_has hy
    · exact absurd rfl (S.nofree _ (PySem.mem_of_lookup hy))
  · exact Nat.le_of_lt (x.above y c (PySem.mem_of_lookup h))
  · have hi : i < vs.length := by
      unfold start at h2
      by_cases hi : i < vs.length
      · exact hi
      · rw [List.getElem?_append_right (by simpa using hi)] at h2
        rw [List.getElem?_replicate] at h2
        split at h2 <;> cases h2
    have ha : vs[i]? = some v := by
      unfold start at h2
      rw [List.getElem?_append_left (by simpa using hi), List.getElem?_map] at h2
      cases e : vs[i]? with
      | none => rw [e] at h2; cases h2
      | some a => rw [e] at h2; cases h2; rfl
    obtain ⟨u, hu, rv⟩ := r.get ha
    have hp : ps[i]? = some y := by
      rw [← S.pre, List.getElem?_take_of_lt (by omega)]; exact h1
    have ndP : ps.Nodup := by rw [← S.pre]; exact S.nd.sublist (List.take_sublist _ _)
    refine ⟨u, rv, ?_⟩
    rcases S.par y (List.mem_of_getElem? hp) with k | k
    · exact .inl ⟨k, bindL_get ndP hp hu k⟩
    · obtain ⟨c, e⟩ := cell_has (n := s.heap.objs.size + 1) k
      refine .inr ⟨.inl k, c, e, ?_⟩
      have q := x.cell y c e
      rw [bindC_get ndP hp hu (by show scope.names.lookup y ≠ _; rw [k]; decide)] at q
      exact q
  · exact e0.hok.fresh (Nat.le_of_lt (x.above y c (PySem.mem_of_lookup h)))
  · unfold start
    show _ = N.length
    rw [List.length_append, List.length_map, List.length_replicate]
    omega
theorem fn_of {CX : CXT} {P : Program} {w : World} {K : PySem.W.Frag} {mg : Str → Option Value} {base : Heap} {k : Nat} {f : Addr} {name qual : Str} {params : Arguments} {body : List Stmt} {scope : Scope} {dV kV doc pm cdv ct oc : Value} {an od : Option Addr}
    {osl : Array (Option Value)} {N ps : List Str} {sp : Sp} (lk : K.lookup f = some ⟨oc, od, .func (PySem.W.fnOf name qual params body scope dV kV doc pm an cdv ct), osl⟩) (hcd : PySem.W.codeIn K cdv qual = true) (S : FnScope N ps scope)
    (len : ∀ vs H Q E, sp vs H Q E → vs.length = ps.length)
    (hbody : ∀ (A : Around) (outer : List Env) (s : Shared) (H : Hp) (vs : List V) (Q : VK) (E : XK), Room k (A.deeper (envOfC qual scope s.heap.objs.size f cdv)) → sp vs H Q E →
      ∃ t, PSs (cxOf CX P w K mg base N qual scope f cdv A outer s H E) body t ∧ t { nx := fun _ H' => Q .non H', rt := Q } (start N vs) H) :
    FnOk P w K mg base CX (k + 1) f (PySem.W.fnOf name qual params body scope dV kV doc pm an cdv ct) ps sp := by
  refine ⟨len, fun A outer s H args us vs Q E hr e0 hb r hsp => ?_⟩
  have hl := len _ _ _ _ hsp
  have KX : K.In s.heap := e0.mod.kin.keeps fun b o e => (e0.bs b o e).1
  have lim : s.heap.NoLimit := e0.mod.nolimit.keeps fun b o e => (e0.bs b o e).1
  have hkind : ∀ y ∈ ps.zip us, scope.names.lookup y.1 = some .local ∨ (scope.names.lookup y.1 = some .cell ∧ ((cellsFrom (s.heap.objs.size + 1) scope.names []).lookup y.1).isSome = true) := fun ⟨n, v⟩ hy => by
    rcases S.par n (List.of_mem_zip hy).1 with q | q
    · exact .inl q
    · exact .inr ⟨q, PySem.W.cellsFrom_some _ _ _ (.inl q)⟩
  refine codeAny_call_function hr.depth (KX _ _ lk) rfl S.co S.gen rfl (PySem.W.codeRec_of KX hcd) (hb _ _ _ _ ?_)
  refine wpAny_newFunctionEnv_cells S.kind hkind fun env he s1 x => ?_
  subst he
  refine ⟨lim.keeps x.toInCall.keep, codeAny_func ?_⟩
  obtain ⟨t, ht, hq⟩ := hbody A outer s H vs Q E (hr.deeper _) hsp
  have I : Inv (cxOf CX P w K mg base N qual scope f cdv A outer s H E) [] (start N vs) H s1 := inv_start S hr.hd e0 hl r x
  refine wpAny_mono (ht [] s1 (start N vs) H _ I hq) (fun fl s' hs => ?_) fun e s' hs => hs
  have fin : ∀ {σ' : St} {H' : Hp} {v : V} {u : Value}, Inv (cxOf CX P w K mg base N qual scope f cdv A outer s H E) [] σ' H' s' → RelV v u → Q v H' → CE outer P w H s Q u s' :=
    fun {σ' H' v u} J rv q => ⟨v, H', J.os, J.bare, J.base, J.hok, rv, q⟩
  cases fl with
  | ret u =>
    obtain ⟨v, σ', H', J, rv, q⟩ := hs
    exact fin J rv q
  | next =>
    obtain ⟨σ', H', J, q⟩ := hs
    exact fin (v := V.non) (u := Value.none) J rfl q
  | brk =>
    obtain ⟨_, _, _, q⟩ := hs
    exact False.elim q
  | cont =>
    obtain ⟨_, _, _, q⟩ := hs
    exact False.elim q
end L2
namespace L2
open PySem PySem.Spec PyProof.Rows
section
variable {X : Cx} {x : Str} {p pos : Pos} {e : Expr} {es : List Expr} {t : TA} {id T : String} {r : List V → Hp → VK → Prop}
def tCB (r : List V → Hp → VK → Prop) (t : TA) : TE := fun σ H Q => t σ H fun vs H1 => r vs H1 Q
theorem pe_callB (hc : CallR X (.builtin id) r) (hg : Gl X x) (hm : X.mg x = none) (hv : bootBuiltins x = some (.builtin id)) (ha : PA X (e :: es) t) (hn : x ≠ "__name__" := by decide) (hdb : (x == ("__debug__" : Str)) = false := by decide)
    (he : starEach (e :: es) X.env = (false, eval e X.env) :: starEach es X.env := by rfl) (hpl : (backTo pos (starEach es X.env)).any (·.1) = false := by rfl) : PE X (.Call (.Name x p) (e :: es) [] pos) (tCB r t) := by
  intro pins s σ H Q I h
  refine wpAny_Call_Name_kw (ld_blt I hg hm hv ?_ hn hdb)
  exact PyProof.Rows.callWith_builtin1 (thn (ha pos pins s σ H _ I h) fun us s1 ⟨vs, H1, I1, r1, q1⟩ => hc pins s1 σ H1 vs us Q I1 r1 q1) he hpl
end
end L2
namespace HT
open PySem PyProof.Rows
section
variable {prog : Program} {w : World} {A : Around} {E : Value → Shared → Prop} {s : Shared}
def sIx (n d : Nat) : Option Int → Nat
  | none => d
  | some v => if v < 0 then (v + (n : Int)).toNat else min v.toNat n
theorem sIx_nat (n d k : Nat) : sIx n d (some (k : Int)) = min k n := by
  show (if (k : Int) < 0 then ((k : Int) + (n : Int)).toNat else min (k : Int).toNat n) = min k n
  rw [if_neg (by omega), Int.toNat_natCast]
end
end HT
namespace L2
open PySem PySem.Spec PyProof.Rows
abbrev TO := St → Hp → (Option Int → Hp → Prop) → Prop
def PO (X : Cx) (e : Option Expr) (t : TO) : Prop :=
  ∀ (pins : List (Addr × Obj)) (s : Shared) (σ : St) (H : Hp) (Q : Option Int → Hp → Prop), Inv X pins σ H s → t σ H Q →
    wpAny (model X.prog X.w) X.A (evalPart e X.env) (fun u s' => ∃ o H', Inv X pins σ H' s' ∧ IsPart u o ∧ Q o H') X.xe s
def tPart (t : TE) : TO := fun σ H Q => t σ H fun x H1 => ∃ i, x = .int i ∧ Q (some i) H1
section
variable {X : Cx} {e : Expr} {te : TE} {lo hi : Option Expr} {tl th : TO} {pos p2 : Pos}
theorem po_some (h : PE X e te) : PO X (some e) (tPart te) := by
  intro pins s σ H Q I hw
  rw [evalPart_some]
  refine thn (h pins s σ H _ I hw) fun u s1 ⟨x, H1, I1, r1, q1⟩ => ?_
  obtain ⟨i, rfl, q⟩ := q1
  obtain ⟨t, rfl⟩ := r1
  exact ⟨some i, H1, I1, .int i t, q⟩
def SlR (X : Cx) (r : V → Option Int → Option Int → Hp → VK → Prop) : Prop :=
  ∀ (pins : List (Addr × Obj)) (s : Shared) (σ : St) (H : Hp) (x : V) (v vl vu : Value) (lo hi : Option Int) (sl : Addr) (Q : VK), Inv X pins σ H s → RelV x v → s.heap.IsSliceOf sl vl vu .none → IsPart vl lo → IsPart vu hi → r x lo hi H Q →
    ∃ T id, typeLookup (.type T) "__getitem__" = pure (some (.builtin id)) ∧ s.TypeIs v T ∧ wpAny (model X.prog X.w) X.A (getItem v (.ref sl)) (EP X pins σ Q) X.xe s
def tSl (r : V → Option Int → Option Int → Hp → VK → Prop) (te : TE) (tl th : TO) : TE := fun σ H Q => te σ H fun x H1 => tl σ H1 fun l H2 => th σ H2 fun u H3 => r x l u H3 Q
theorem pe_slice {r : V → Option Int → Option Int → Hp → VK → Prop} (hr : SlR X r) (he : PE X e te) (hl : PO X lo tl) (hu : PO X hi th) : PE X (.Subscript e (.Slice lo hi none p2) pos) (tSl r te tl th) := by
  intro pins s σ H Q I h
  refine Subscript_ (thn (he pins s σ H _ I h) fun v s1 ⟨x, H1, I1, r1, q1⟩ => ?_)
  refine wpAny_Slice (thn (hl pins s1 σ H1 _ I1 q1) fun vl s2 ⟨l, H2, I2, pl, q2⟩ => thn (hu pins s2 σ H2 _ I2 q2) fun vu s3 ⟨u, H3, I3, pu, q3⟩ => ?_)
  rw [evalPart_none]
  refine wpAny_pure ?_
  have I4 : Inv X pins σ H3 { s3 with heap := s3.heap.push { cls := .type "slice", data := .fields #[vl, vu, .none] } } := I3.kept (t' := s3.toks) fun b ob q => Heap.get?_push_of_some _ q
  obtain ⟨T, id, hT, ht, hg⟩ := hr pins { s3 with heap := s3.heap.push { cls := .type "slice", data := .fields #[vl, vu, .none] } } σ H3 x v vl vu l u s3.heap.objs.size Q I4 r1 (Heap.IsSliceOf.new ..) pl pu q3
  show wpAny (model X.prog X.w) X.A (subscriptTail e (.Slice lo hi none p2) v (.ref s3.heap.objs.size)) (EP X pins σ Q) X.xe { s3 with heap := s3.heap.push { cls := .type "slice", data := .fields #[vl, vu, .none] } }
  exact tail_any (ops := [.ref s3.heap.objs.size, v]) ht hT hg (by with_unfolding_all rfl)
def cutV (xs : List V) (lo hi : Option Int) : List V := (xs.drop (HT.sIx xs.length 0 lo)).take (HT.sIx xs.length xs.length hi - HT.sIx xs.length 0 lo)
theorem cutV_length (xs : List V) (lo hi : Option Int) : (cutV xs lo hi).length ≤ xs.length := by
  unfold cutV
  rw [List.length_take, List.length_drop]
  omega
end
end L2
namespace L2
open PySem PySem.Spec PyProof.Rows
def ixN (n : Nat) (i : Int) : Option Nat := if 0 ≤ i then (if i < n then some i.toNat else none) else if -(n : Int) ≤ i then some (i + n).toNat else none
def atI {α : Type} (xs : List α) (i : Int) : Option α := (ixN xs.length i).bind fun j => xs[j]?
theorem ixN_seq {n : Nat} {i : Int} {j : Nat} (h : ixN n i = some j) : seqIndex? i n = some j ∧ j < n ∧ -(n : Int) ≤ i ∧ i < n := by
  unfold ixN at h
  by_cases h0 : 0 ≤ i
  · rw [if_pos h0] at h
    by_cases h1 : i < n
    · rw [if_pos h1] at h
      have e : i.toNat = j := Option.some.inj h
      exact ⟨by rw [seqIndex_of h0 h1, e], by omega, by omega, h1⟩
    · rw [if_neg h1] at h; cases h
  · rw [if_neg h0] at h
    by_cases h1 : -(n : Int) ≤ i
    · rw [if_pos h1] at h
      have e : (i + n).toNat = j := Option.some.inj h
      exact ⟨by rw [seqIndex_neg (by omega) h1, e], by omega, h1, by omega⟩
    · rw [if_neg h1] at h; cases h
theorem atI_get {α : Type} {xs : List α} {i : Int} {v : α} (h : atI xs i = some v) : ∃ j, seqIndex? i xs.length = some j ∧ xs[j]? = some v ∧ j < xs.length ∧ -(xs.length : Int) ≤ i ∧ i < xs.length := by
  unfold atI at h
  cases e : ixN xs.length i with
  | none => rw [e] at h; cases h
  | some j =>
    rw [e] at h
    obtain ⟨h1, h2, h3, h4⟩ := ixN_seq e
    exact ⟨j, h1, h, h2, h3, h4⟩
theorem atI_nat {α : Type} {xs : List α} {j : Nat} {v : α} (h : xs[j]? = some v) : atI xs (j : Int) = some v := by
  have hj : j < xs.length := (List.getElem?_eq_some_iff.mp h).1
  have e : ixN xs.length (j : Int) = some j := by
    unfold ixN
    rw [if_pos (by omega), if_pos (by omega)]; simp
  unfold atI; rw [e]; exact h
def PlainIx (b : Expr) : Prop := ∀ o i, subscripted b false o i = operate [o, i] (getItem o i)
def IxR (X : Cx) (r : R2) : Prop :=
  ∀ (value slice : Expr) (pins : List (Addr × Obj)) (s : Shared) (σ : St) (H : Hp) (x y : V) (v u : Value) (Q : VK), Inv X pins σ H s → RelV x v → RelV y u → r x y H Q →
    subscripted slice false v u = operate [v, u] (getItem v u) → wpAny (model X.prog X.w) X.A (subscriptTail value slice v u) (EP X pins σ Q) X.xe s
def MtR (X : Cx) (id : String) (r : V → List V → Hp → VK → Prop) : Prop :=
  ∀ (pins : List (Addr × Obj)) (s : Shared) (σ : St) (H : Hp) (x : V) (xs : List V) (v : Value) (us : List Value) (Q : VK), Inv X pins σ H s → RelV x v → Vals xs us → r x xs H Q →
    wpAny (model X.prog X.w) X.A (call (.builtin id) (v :: us)) (EP X pins σ Q) X.xe s
section
variable {X : Cx} {a b : Expr} {ta tb : TE} {pos : Pos}
theorem pe_ix {r : R2} (hr : IxR X r) (ha : PE X a ta) (hb : PE X b tb) (hs : PlainIx b) : PE X (.Subscript a b pos) (tOp r ta tb) := by
  intro pins s σ H Q I h
  exact Subscript_ (binT ha hb I h fun v u s2 x y H2 I2 rx ry q => hr a b pins s2 σ H2 x y v u Q I2 rx ry q (hs _ _))
def rIxL (K : PySem.W.Frag) : R2 := fun x y H Q => ∃ p xs i v, x = .ref p ∧ y = .int i ∧ SqL K H p xs ∧ atI xs i = some v ∧ Q v H
theorem ix_list : IxR X (rIxL X.K) := by
  intro value slice pins s σ H x y v u Q I rx ry h hs
  obtain ⟨p, xs, i, z, rfl, rfl, hq, he, q⟩ := h
  cases rx
  obtain ⟨t, rfl⟩ := ry
  obtain ⟨its, r, pl, hz⟩ := I.list hq
  obtain ⟨j, h1, h2, h3, h4, h5⟩ := atI_get he
  obtain ⟨w, ew, rw'⟩ := r.get h2
  have hl := r.length
  have hn := line63
  have fin : EP X pins σ Q w s := ⟨z, H, I, rw', q⟩
  by_cases h0 : 0 ≤ i
  · have hj : i.toNat = j := by
      rw [seqIndex_of h0 h5] at h1
      exact Option.some.inj h1
    exact item_listR pl.isList h0 (by omega) (by rw [hj]; simpa using ew) fin hs
  · have hj : (i + (its.toArray.size : Int)).toNat = j := by
      rw [seqIndex_neg (by omega) h4] at h1
      rw [List.size_toArray, ← hl]
      exact Option.some.inj h1
    exact subscriptTail_builtinR (x := w) pl.isList.typeIs slot_list_getitem.lookup
      (wpAny_getItem_list_neg (Q := fun r s' => r = w ∧ EP X pins σ Q r s') pl.isList (by omega) (by rw [List.size_toArray] <;> omega) (by omega) (by rw [hj]; simpa using ew) ⟨rfl, fin⟩) hs
theorem slice_bounds (lo hi : Option Int) (n : Nat) : (sliceBounds lo hi none n).1 = ((HT.sIx n 0 lo : Nat) : Int) ∧ (sliceBounds lo hi none n).2.1 = ((HT.sIx n n hi : Nat) : Int) ∧ (sliceBounds lo hi none n).2.2 = 1 := by
  refine ⟨?_, ?_, rfl⟩
  · cases lo with
    | none => simp [sliceBounds, HT.sIx]
    | some i =>
      simp only [sliceBounds, HT.sIx, Option.getD_none, show (1 : Int) > 0 by decide, if_true]
      by_cases h : i < 0
      · simp only [h, if_true] <;> omega
      · simp only [h, if_false] <;> omega
  · cases hi with
    | none => simp [sliceBounds, HT.sIx]
    | some i =>
      simp only [sliceBounds, HT.sIx, Option.getD_none, show (1 : Int) > 0 by decide, if_true]
      by_cases h : i < 0
      · simp only [h, if_true] <;> omega
      · simp only [h, if_false] <;> omega
theorem slicePick_cut (its : List Value) (lo hi : Option Int) : slicePick its.toArray lo hi none = ((its.drop (HT.sIx its.length 0 lo)).take (HT.sIx its.length its.length hi - HT.sIx its.length 0 lo)).toArray := by
  obtain ⟨h1, h2, h3⟩ := slice_bounds lo hi its.toArray.size
  unfold slicePick
  rw [h1, h2, h3]
  simp only [sliceRange_one, pick_run, List.size_toArray] <;> rfl
def rSlL (K : PySem.W.Frag) : V → Option Int → Option Int → Hp → VK → Prop := fun x lo hi H Q => ∃ a xs, x = .ref a ∧ SqL K H a xs ∧ ∀ p, H p = none → Q (.ref p) (upd H p (.lst (cutV xs lo hi)))
theorem sl_list : SlR X (rSlL X.K) := by
  intro pins s σ H x v vl vu lo hi sl Q I rx hs pl pu h
  obtain ⟨a, xs, rfl, hx, q⟩ := h
  cases rx
  obtain ⟨its, r, ht, hz⟩ := I.list hx
  have hlen := r.length
  refine ⟨"list", _, slot_list_getitem.lookup, ht.isList.typeIs, ?_⟩
  refine wpAny_getItem_list_slice ht.isList hs pl pu .none (by simp) ?_ (by rw [List.size_toArray] <;> omega)
  rw [slicePick_cut, ← hlen]
  refine ⟨.ref s.heap.objs.size, _, I.laid (t' := s.toks) (o := .lst (cutV xs lo hi)) (fun b ob q => Heap.get?_push_of_some _ q) (Nat.le_refl _) ?_, rfl, q _ (I.hok.fresh (Nat.le_refl _))⟩
  exact ⟨Nat.le_trans (cutV_length xs lo hi) hz, _, 0, (r.drop (HT.sIx xs.length 0 lo)).take (HT.sIx xs.length xs.length hi - HT.sIx xs.length 0 lo), Heap.get?_push_size _ rfl⟩
def flatV : V → Bool
  | .non => true
  | .bl _ => true
  | .int _ => true
  | .str _ => true
  | _ => false
def eqV : V → V → Bool
  | .non, .non => true
  | .bl a, .bl b => a == b
  | .bl a, .int b => (if a then 1 else 0) == b
  | .int a, .bl b => a == (if b then 1 else 0)
  | .int a, .int b => a == b
  | .str a, .str b => a == b
  | _, _ => false
theorem eqAt_V {A : Around} {s : Shared} {y x : V} {u v : Value} (ry : RelV y u) (rx : RelV x v) (fy : flatV y = true) (fx : flatV x = true) : SeqAt.EqAt A s u v (eqV y x) := by
  cases y with
  | non =>
    cases ry
    cases x with
    | non => cases rx; exact SeqAt.EqAt.same _
    | bl b => cases rx; exact SeqAt.EqAt.none_bool b
    | int b => obtain ⟨t, rfl⟩ := rx; exact SeqAt.EqAt.none_int b t
    | str b => obtain ⟨t, rfl⟩ := rx; exact SeqAt.EqAt.none_str b t
    | _ => exact absurd (show false = true from fx) Bool.false_ne_true
  | bl a =>
    cases ry
    cases x with
    | non => cases rx; exact SeqAt.EqAt.bool_none a
    | bl b => cases rx; exact SeqAt.EqAt.bool_bool a b
    | int b => obtain ⟨t, rfl⟩ := rx; exact SeqAt.EqAt.bool_int a b t
    | str b => obtain ⟨t, rfl⟩ := rx; exact SeqAt.EqAt.bool_str a b t
    | _ => exact absurd (show false = true from fx) Bool.false_ne_true
  | int a =>
    obtain ⟨t', rfl⟩ := ry
    cases x with
    | non => cases rx; exact SeqAt.EqAt.int_none a t'
    | bl b => cases rx; exact SeqAt.EqAt.int_bool a t' b
    | int b => obtain ⟨t, rfl⟩ := rx; exact SeqAt.EqAt.int_int a t' b t
    | str b => obtain ⟨t, rfl⟩ := rx; exact SeqAt.EqAt.int_str a t' b t
    | _ => exact absurd (show false = true from fx) Bool.false_ne_true
  | str a =>
    obtain ⟨t', rfl⟩ := ry
    cases x with
    | non => cases rx; exact SeqAt.EqAt.str_none a t'
    | bl b => cases rx; exact SeqAt.EqAt.str_bool a t' b
    | int b => obtain ⟨t, rfl⟩ := rx; exact SeqAt.EqAt.str_int a t' b t
    | str b => obtain ⟨t, rfl⟩ := rx; exact SeqAt.EqAt.str_str a t' b t
    | _ => exact absurd (show false = true from fx) Bool.false_ne_true
  | _ => exact absurd (show false = true from fy) Bool.false_ne_true
def eqU (x : V) (u : Value) : Bool := match u with
  | .none => eqV .non x
  | .bool b => eqV (.bl b) x
  | .int i _ => eqV (.int i) x
  | .str z _ => eqV (.str z) x
  | _ => false
theorem eqU_of {x y : V} {u : Value} (r : RelV y u) (f : flatV y = true) : eqU x u = eqV y x := by
  cases y with
  | non => cases r; rfl
  | bl b => cases r; rfl
  | int i => obtain ⟨t, rfl⟩ := r; rfl
  | str z => obtain ⟨t, rfl⟩ := r; rfl
  | _ => exact absurd (show false = true from f) Bool.false_ne_true
theorem any_eqU {x : V} : ∀ {xs : List V} {us : List Value}, Vals xs us → xs.all flatV = true → us.any (eqU x) = xs.any fun y => eqV y x
  | _, _, .nil, _ => rfl
  | y :: xs, u :: us, .cons r t, f => by
    rw [List.all_cons, Bool.and_eq_true] at f
    rw [List.any_cons, List.any_cons, eqU_of r f.1, any_eqU t f.2]
theorem mem_eqAt {A : Around} {s : Shared} {x : V} {v : Value} (rx : RelV x v) (fx : flatV x = true) : ∀ {xs : List V} {us : List Value}, Vals xs us → xs.all flatV = true → ∀ u ∈ us, SeqAt.EqAt A s u v (eqU x u)
  | _, _, .nil, _ => fun u hu => by cases hu
  | y :: xs, u :: us, .cons r t, f => fun u' hu => by
    rw [List.all_cons, Bool.and_eq_true] at f
    rcases List.mem_cons.mp hu with rfl | hu
    · rw [eqU_of r f.1]; exact eqAt_V r rx f.1 fx
    · exact mem_eqAt rx fx t f.2 u' hu
def inV (x : V) (xs : List V) : Bool := xs.any fun y => eqV y x
def rIn (K : PySem.W.Frag) (neg : Bool) : R2 := fun x y H Q => ∃ p xs, y = .ref p ∧ (SqL K H p xs ∨ SqT K H p xs) ∧ flatV x = true ∧ xs.all flatV = true ∧ Q (.bl (if neg then !inV x xs else inV x xs)) H
theorem op_in_seq : OpR X (compareOp .In) (rIn X.K false) := by
  intro pins s σ H x y v u Q I rx ry h
  obtain ⟨p, xs, rfl, hq, fx, fs, q⟩ := h
  cases ry
  rcases hq with hq | hq
  · obtain ⟨its, r, pl, hz⟩ := I.list hq
    refine SeqAt.in_listAt (eqU x) pl.isList (fun w hw => mem_eqAt rx fx r fs w (by simpa using hw)) ⟨.bl _, H, I, rfl, ?_⟩
    rw [show its.toArray.any (eqU x) = its.any (eqU x) by simp, any_eqU r fs]
    exact q
  · obtain ⟨its, r, pl, hz⟩ := I.tuple hq
    refine SeqAt.in_tupleAt (eqU x) pl (fun w hw => mem_eqAt rx fx r fs w (by simpa using hw)) ⟨.bl _, H, I, rfl, ?_⟩
    rw [show its.toArray.any (eqU x) = its.any (eqU x) by simp, any_eqU r fs]
    exact q
theorem op_notIn_seq : OpR X (compareOp .NotIn) (rIn X.K true) := by
  intro pins s σ H x y v u Q I rx ry h
  obtain ⟨p, xs, rfl, hq, fx, fs, q⟩ := h
  cases ry
  rcases hq with hq | hq
  · obtain ⟨its, r, pl, hz⟩ := I.list hq
    refine SeqAt.notIn_listAt (eqU x) pl.isList (fun w hw => mem_eqAt rx fx r fs w (by simpa using hw)) ⟨.bl _, H, I, rfl, ?_⟩
    rw [show its.toArray.any (eqU x) = its.any (eqU x) by simp, any_eqU r fs]
    exact q
  · obtain ⟨its, r, pl, hz⟩ := I.tuple hq
    refine SeqAt.notIn_tupleAt (eqU x) pl (fun w hw => mem_eqAt rx fx r fs w (by simpa using hw)) ⟨.bl _, H, I, rfl, ?_⟩
    rw [show its.toArray.any (eqU x) = its.any (eqU x) by simp, any_eqU r fs]
    exact q
theorem call_len_seq : CallR X (.builtin "len") (fun xs H Q => ∃ p ys, xs = [.ref p] ∧ (SqL X.K H p ys ∨ SqT X.K H p ys) ∧ Q (.int ys.length) H) := by
  intro pins s σ H xs us Q I r h
  obtain ⟨p, ys, rfl, hq, q⟩ := h
  obtain ⟨u, rfl, rx⟩ := vals1 r
  cases rx
  have hn := line63
  rcases hq with hq | hq
  · obtain ⟨its, r', pl, hz⟩ := I.list hq
    have hlen := r'.length
    exact Calls.call_len_list pl.isList (by simp only [List.size_toArray] <;> omega) ⟨.int ys.length, H, I.tok _, ⟨s.toks + 1, by rw [List.size_toArray, hlen]⟩, q⟩
  · obtain ⟨its, r', pl, hz⟩ := I.tuple hq
    have hlen := r'.length
    exact len_tuple pl (by simp only [List.size_toArray] <;> omega) ⟨.int ys.length, H, I.tok _, ⟨s.toks + 1, by rw [List.size_toArray, hlen]⟩, q⟩
def tyV (K : PySem.W.Frag) (T : String) (x : V) (H : Hp) : Prop := match x with
  | .str _ => T = "str"
  | .int _ => T = "int"
  | .ref p => (T = "list" ∧ ∃ xs, SqL K H p xs) ∨ (T = "tuple" ∧ ∃ o, K.lookup p = some o ∧ o.cls = .type "tuple" ∧ o.dict = none) ∨
      (T = "dict" ∧ ((∃ kvs, H p = some (.dK kvs)) ∨ ∃ kvs, H p = some (.dT kvs))) ∨ (T = "set" ∧ ∃ S n, H p = some (.set S n))
  | _ => False
theorem tyV_is {pins : List (Addr × Obj)} {σ : St} {H : Hp} {s : Shared} {T : String} {x : V} {v : Value} (I : Inv X pins σ H s) (r : RelV x v) (ty : tyV X.K T x H) :
    s.TypeIs v T ∧ ∀ a, v = .ref a → ∃ ob, s.heap.get? a = some ob ∧ ob.dict = none := by
  cases x with
  | str z =>
    obtain ⟨t, rfl⟩ := r
    cases (show T = "str" from ty)
    exact ⟨typeIs_str s z t, fun _ e => nomatch e⟩
  | int i =>
    obtain ⟨t, rfl⟩ := r
    cases (show T = "int" from ty)
    exact ⟨typeIs_int s i t, fun _ e => nomatch e⟩
  | ref p =>
    cases r
    rcases ty with ⟨rfl, xs, hq⟩ | ⟨rfl, o, hk, hc, hd⟩ | ⟨rfl, hk⟩ | ⟨rfl, S, n, hk⟩
    · obtain ⟨its, _, pl, _⟩ := I.list hq
      refine ⟨pl.isList.typeIs, fun a e => ?_⟩
      cases e
      obtain ⟨o, n, e, c, hd, _⟩ := pl
      exact ⟨o, e, hd⟩
    · refine ⟨⟨o, I.kIn p o hk, hc⟩, fun a e => ?_⟩
      cases e
      exact ⟨o, I.kIn _ o hk, hd⟩
    · have z : ∃ o, s.heap.get? p = some o ∧ o.ExactDict := by
        rcases hk with ⟨kvs, hk⟩ | ⟨kvs, hk⟩
        · obtain ⟨_, _, _, _, o, _, _, e, ex, _⟩ := I.hok p _ hk
          exact ⟨o, e, ex⟩
        · obtain ⟨_, _, _, _, o, _, _, e, ex, _⟩ := I.hok p _ hk
          exact ⟨o, e, ex⟩
      obtain ⟨o, e, ex⟩ := z
      refine ⟨⟨o, e, ex.1⟩, fun a e2 => ?_⟩
      cases e2
      exact ⟨o, e, ex.2.1⟩
    · obtain ⟨o, _, _, _, e, ex, _⟩ := I.hok p _ hk
      refine ⟨⟨o, e, ex.1⟩, fun a e2 => ?_⟩
      cases e2
      exact ⟨o, e, ex.2.1⟩
  | _ => exact False.elim ty
def tBM (K : PySem.W.Frag) (T : String) (r : V → List V → Hp → VK → Prop) (to : TE) (t : TA) : TE := fun σ H Q => to σ H fun x H1 => tyV K T x H1 ∧ t σ H1 fun xs H2 => r x xs H2 Q
variable {o e : Expr} {es : List Expr} {to : TE} {t : TA} {name : Str} {apos cpos : Pos} {T id : String} {r : V → List V → Hp → VK → Prop}
theorem pe_bm (pa : PlainAttrs T) (slot : Slot T name id) (hty : typeOf (.builtin id) = pure (.type "method_descriptor")) (hm : MtR X id r) (ho : PE X o to) (ha : PA X (e :: es) t)
    (hbase : attributeBase o name X.env (eval o X.env) = eval o X.env := by rfl)
    (hfew : ((backTo cpos (starEach (e :: es) X.env)).all (fun x => !x.1) && (backToKw cpos (keywordEach [] X.env)).all (fun x => x.1.isSome)
      && decide ((e :: es).length + ([] : List Keyword).length + (if ([] : List Keyword).isEmpty then 0 else 1) < 30)) = true := by rfl)
    (hline : (apos.endLine == cpos.line) = true := by rfl) (hs : starEach (e :: es) X.env = (false, eval e X.env) :: starEach es X.env := by rfl) (hplain : (backTo cpos (starEach es X.env)).any (·.1) = false := by rfl) :
    PE X (.Call (.Attribute o name apos) (e :: es) [] cpos) (tBM X.K T r to t) := by
  intro pins s σ H Q I h
  refine wpAny_Call_method_late hbase hfew hline rfl (thn (ho pins s σ H _ I h) fun v s1 ⟨x, H1, I1, r1, ty, q1⟩ => ?_)
  obtain ⟨h1, h2⟩ := tyV_is I1 r1 ty
  refine ⟨T, id, pa, slot, hty, h1, h2, ?_⟩
  have hA := ha cpos pins s1 σ H1 _ I1 q1
  rw [hs] at hA ⊢
  refine Calls.callWith_builtin (by show (false || (backTo cpos (starEach es X.env)).any (·.1)) = false; rw [hplain] <;> rfl) (Calls.evalArgs_plain ?_)
  exact thn hA fun us s2 ⟨vs, H2, I2, r2, q2⟩ => hm pins s2 σ H2 x vs v us Q I2 r1 r2 q2
end
end L2
namespace L2
open PySem PySem.Spec PyProof.Rows
def MtM (X : Cx) (id : String) (r : V → List V → Hp → VK → Prop) : Prop :=
  ∀ (pins : List (Addr × Obj)) (s : Shared) (σ : St) (H : Hp) (x : V) (xs : List V) (v : Value) (us : List Value) (Q : VK), Inv X pins σ H s → RelV x v → Vals xs us → r x xs H Q →
    wpAny (model X.prog X.w) X.A (call (.builtin id) (v :: us)) (EP X pins σ Q) X.xe s
theorem Vals.one : ∀ {x : V} {us : List Value}, Vals [x] us → ∃ u, us = [u] ∧ RelV x u
  | _, _, .cons r .nil => ⟨_, rfl, r⟩
theorem Vals.eraseIdx : ∀ {xs : List V} {us : List Value} (i : Nat), Vals xs us → Vals (xs.eraseIdx i) (us.eraseIdx i)
  | _, _, _, .nil => .nil
  | _, _, 0, .cons _ t => t
  | _, _, i + 1, .cons r t => .cons r (Vals.eraseIdx i t)
theorem len_erase {α : Type} : ∀ (l : List α) (i : Nat), (l.eraseIdx i).length ≤ l.length
  | [], _ => Nat.le_refl _
  | _ :: _, 0 => Nat.le_succ _
  | _ :: r, i + 1 => Nat.succ_le_succ (len_erase r i)
section
variable {X : Cx} {pins : List (Addr × Obj)} {σ : St} {H : Hp} {s : Shared} {l b : Addr} {xs ys zs : List V}
theorem Inv.lset {its its' : List Value} {n : Nat} {f : Array Value → Array Value} {t' : Nat} (I : Inv X pins σ H s) (hH : H l = some (.lst xs))
    (e : s.heap.get? l = some { cls := .type "list", data := .seq its.toArray n }) (hf : f its.toArray = its'.toArray) (hv : Vals ys its') (hz : ys.length ≤ sizeLine) :
    Inv X pins σ (upd H l (.lst ys)) { s with heap := s.heap.update l (Obj.mapSeq f), toks := t' } := by
  have q := PySem.IsL.update e f
  rw [hf] at q
  refine I.write (x := l) (e := l) (by rw [hH]; exact trivial) (.inl rfl) (fun b' u hb hu => (Heap.get?_update_other s.heap (Obj.mapSeq f) (Ne.symm hb)).trans hu) ⟨_, q⟩ ?_
  exact ⟨hz, its', _, hv, q⟩
theorem Inv.lnew {its : List Value} {t' : Nat} (I : Inv X pins σ H s) (hv : Vals ys its) (hz : ys.length ≤ sizeLine) :
    Inv X pins σ (upd H s.heap.objs.size (.lst ys)) { s with heap := s.heap.push { cls := .type "list", data := .seq its.toArray }, toks := t' } :=
  I.laid (fun _ _ q => Heap.get?_push_of_some _ q) (Nat.le_refl _) ⟨hz, its, 0, hv, Heap.get?_push_size _ rfl⟩
theorem Inv.fresh (I : Inv X pins σ H s) : H s.heap.objs.size = none := I.hok.fresh (Nat.le_refl _)
theorem Inv.lstM (I : Inv X pins σ H s) (hH : H l = some (.lst xs)) : xs.length ≤ sizeLine ∧ ∃ (its : List Value) (n : Nat), Vals xs its ∧ xs.length = its.length ∧ s.heap.get? l = some { cls := .type "list", data := .seq its.toArray n } := by
  obtain ⟨z, its, n, r, e⟩ := I.hok l _ hH
  exact ⟨z, its, n, r, r.length, e⟩
theorem notLongL {n : Nat} (h : n ≤ sizeLine) : Builtin.List.listTooLong n = false := by
  unfold Builtin.List.listTooLong
  exact decide_eq_false (by omega)
end
section
variable {X : Cx}
def rAppend : V → List V → Hp → VK → Prop := fun x vs H Q => ∃ l xs y, x = .ref l ∧ vs = [y] ∧ H l = some (.lst xs) ∧ xs.length < sizeLine ∧ Q .non (upd H l (.lst (xs ++ [y])))
theorem mt_append : MtM X "list.append" rAppend := by
  intro pins s σ H x vs v us Q I rx rv h
  obtain ⟨l, xs, y, rfl, rfl, hH, hz, q⟩ := h
  cases rx
  obtain ⟨u, rfl, ru⟩ := rv.one
  obtain ⟨z, its, n, r, hl, e⟩ := I.lstM hH
  refine call_meets F.slot_list_append ⟨_, e, rfl⟩ F.entry_list_append (F.args_list_append_2 _ _) (PySem.list_append l its.toArray n u (by rw [List.size_toArray]; omega)) ⟨e, ?_⟩
  refine ⟨.non, _, I.lset (its' := its ++ [u]) hH e (by simp) (r.append (.cons ru .nil)) ?_, rfl, q⟩
  rw [List.length_append, List.length_singleton]
  omega
def rExtend : V → List V → Hp → VK → Prop := fun x vs H Q => ∃ l b xs zs, x = .ref l ∧ vs = [.ref b] ∧ H l = some (.lst xs) ∧ H b = some (.lst zs) ∧ xs.length + zs.length ≤ sizeLine ∧ Q .non (upd H l (.lst (xs ++ zs)))
theorem mt_extend : MtM X "list.extend" rExtend := by
  intro pins s σ H x vs v us Q I rx rv h
  obtain ⟨l, b, xs, zs, rfl, rfl, hH, hB, hz, q⟩ := h
  cases rx
  obtain ⟨u, rfl, ru⟩ := rv.one
  cases ru
  obtain ⟨z, its, n, r, hl, e⟩ := I.lstM hH
  obtain ⟨z2, its2, n2, r2, hl2, e2⟩ := I.lstM hB
  have hsz : its.toArray.size + its2.toArray.size ≤ sizeLine := by rw [List.size_toArray, List.size_toArray]; omega
  have hlong : ¬ (!its.toArray.isEmpty && Builtin.List.listTooLong (its.toArray.size + its2.toArray.size)) = true := by
    rw [notLongL hsz, Bool.and_false]
    exact Bool.false_ne_true
  refine call_meets F.slot_list_extend ⟨_, e, rfl⟩ F.entry_list_extend (F.args_list_extend_2 _ _)
    (AutoSeq1.list_extend_list_list_0 l its.toArray n b its2.toArray n2 hlong (by rw [List.size_toArray]; omega) (by omega)) ⟨e, e2, ?_⟩
  refine ⟨.non, _, I.lset (its' := its ++ its2) hH e (by simp) (r.append r2) ?_, rfl, q⟩
  rw [List.length_append]
  omega
def rPopAt : V → List V → Hp → VK → Prop := fun x vs H Q => ∃ l xs i k y, x = .ref l ∧ vs = [.int i] ∧ H l = some (.lst xs) ∧ -(2 ^ 63) ≤ i ∧ i < 2 ^ 63 ∧ seqIndex? i xs.length = some k ∧ xs[k]? = some y ∧ Q y (upd H l (.lst (xs.eraseIdx k)))
theorem mt_popAt : MtM X "list.pop" rPopAt := by
  intro pins s σ H x vs v us Q I rx rv h
  obtain ⟨l, xs, i, k, y, rfl, rfl, hH, h1, h2, hk, hy, q⟩ := h
  cases rx
  obtain ⟨u, rfl, ru⟩ := rv.one
  obtain ⟨t, rfl⟩ := ru
  obtain ⟨z, its, n, r, hl, e⟩ := I.lstM hH
  obtain ⟨w, hw, rw'⟩ := r.get hy
  refine call_meets F.slot_list_pop ⟨_, e, rfl⟩ F.entry_list_pop (F.args_list_pop_2 _ _)
    (MeetsSeq.list_pop_at l its.toArray n i t k w (fitsIndex_both h1 h2) (by rw [List.size_toArray, ← hl]; exact hk) (by rw [← Array.getElem?_toList]; exact hw) (by rw [List.size_toArray]; omega)) ⟨e, ?_⟩
  refine ⟨y, _, I.lset (its' := its.eraseIdx k) hH e ?_ (r.eraseIdx k) ?_, rw', q⟩
  · show its.toArray.eraseIdxIfInBounds k = (its.eraseIdx k).toArray
    rw [List.eraseIdxIfInBounds_toArray]
  · have := len_erase xs k
    omega
def rCat : R2 := fun x y H Q => ∃ l b xs zs, x = .ref l ∧ y = .ref b ∧ H l = some (.lst xs) ∧ H b = some (.lst zs) ∧ xs.length + zs.length ≤ sizeLine ∧ ∀ p, H p = none → Q (.ref p) (upd H p (.lst (xs ++ zs)))
theorem op_cat : OpR X (binaryOp .Add) rCat := by
  intro pins s σ H x y v u Q I rx ry h
  obtain ⟨l, b, xs, zs, rfl, rfl, hH, hB, hz, q⟩ := h
  cases rx
  cases ry
  obtain ⟨z, its, n, r, hl, e⟩ := I.lstM hH
  obtain ⟨z2, its2, n2, r2, hl2, e2⟩ := I.lstM hB
  refine PySem.P.add_list e e2 ?_ (by rw [List.size_toArray, List.size_toArray]; omega)
  have ea : its.toArray ++ its2.toArray = (its ++ its2).toArray := by simp
  rw [ea]
  exact ⟨.ref _, _, I.lnew (t' := s.toks) (r.append r2) (by rw [List.length_append]; omega), rfl, q _ I.fresh⟩
end
end L2
namespace L2
open PySem PySem.Spec PyProof.Rows
theorem Vals.ints : ∀ {ns : List Int} {us : List Value}, Vals (ns.map V.int) us → IntsAre us ns
  | [], us, h => by
    rw [List.map_nil] at h
    cases h
    exact IntsAre.nil
  | n :: ns, us, h => by
    rw [List.map_cons] at h
    cases h with
    | cons r t =>
      obtain ⟨k, rfl⟩ := r
      exact IntsAre.cons n k (Vals.ints t)
theorem vals_of_ints : ∀ {us : List Value} {ns : List Int}, IntsAre us ns → Vals (ns.map V.int) us
  | _, _, .nil => by rw [List.map_nil]; exact Paired.nil
  | _, _, .cons n t h => by rw [List.map_cons]; exact Paired.cons (show RelV (V.int n) (Value.int n t) from ⟨t, rfl⟩) (vals_of_ints h)
theorem Vals.ref1 {a : Addr} {us : List Value} (r : Vals [V.ref a] us) : us = [Value.ref a] := by
  cases r with
  | cons r t =>
    cases t
    cases r
    rfl
section
variable {prog : Program} {w : World} {A : Around} {E : Value → Shared → Prop} {s : Shared} {l : Addr} {its : List Value} {ns : List Int} {Q : Value → Shared → Prop}
theorem sum_raw (hh : A.handled = none) (hl : s.heap.IsList l its.toArray) (hi : IntsAre its ns)
    (h : ∀ h' tk t', (∀ b o, s.heap.get? b = some o → h'.get? b = some o) → Q (.int ns.sum t') { s with heap := h', toks := tk }) : wpAny (model prog w) A (call (.builtin "sum") [.ref l]) Q E s := by
  obtain ⟨xs, e⟩ := hi.allInts.items
  have hn : numsOf (intItems xs).toList = ns := by rw [← e]; exact hi.numsOf
  rw [nums_intItems] at hn
  rw [e] at hl
  refine PySem.sum_intListG hh hl fun h' tk t' hk => ?_
  have := h h' tk t' hk
  rw [preSum_eq, List.take_of_length_le (by simp), hn]; exact this
theorem min_raw (hh : A.handled = none) (hl : s.heap.IsList l its.toArray) (hi : IntsAre its ns) (hne : 0 < ns.length)
    (h : ∀ h' tk M t', (∀ b o, s.heap.get? b = some o → h'.get? b = some o) → M ∈ ns → (∀ a, a ∈ ns → M ≤ a) → Q (.int M t') { s with heap := h', toks := tk }) : wpAny (model prog w) A (call (.builtin "min") [.ref l]) Q E s := by
  obtain ⟨xs, e⟩ := hi.allInts.items
  have hn : numsOf (intItems xs).toList = ns := by rw [← e]; exact hi.numsOf
  rw [nums_intItems] at hn
  subst hn
  rw [e] at hl
  have hsz : 0 < xs.size := by simpa using hne
  refine PySem.min_intList hh hl hsz fun v h' tk hv hk => ?_
  obtain ⟨t, rfl⟩ := intItems_at hv
  obtain ⟨h1, h2⟩ := argBest_lt (numAt xs) (xs.size - 1)
  refine h h' tk _ t hk ?_ fun a ha => ?_
  · rw [numAt_eq]; exact PySem.getD_mem (by rw [List.length_map, Array.length_toList]; omega)
  · obtain ⟨j, hj, rfl⟩ := mem_getD ha
    rw [List.length_map, Array.length_toList] at hj
    rw [← numAt_eq]; exact h2 j (by omega)
end
section
variable {X : Cx}
def rSum (K : PySem.W.Frag) : List V → Hp → VK → Prop := fun vs H Q => ∃ (a : Addr) (ns : List Int), vs = [V.ref a] ∧ SqL K H a (ns.map V.int) ∧ Q (.int ns.sum) H
def rMin (K : PySem.W.Frag) : List V → Hp → VK → Prop := fun vs H Q => ∃ (a : Addr) (ns : List Int), vs = [V.ref a] ∧ SqL K H a (ns.map V.int) ∧ 0 < ns.length ∧ ∀ m, m ∈ ns → (∀ y, y ∈ ns → m ≤ y) → Q (.int m) H
theorem cr_sum (hc : X.calm = true) : CallR X (.builtin "sum") (rSum X.K) := by
  intro pins s σ H vs us Q I r h
  obtain ⟨a, ns, rfl, hs, q⟩ := h
  obtain ⟨its, rv, hl, _⟩ := I.list hs
  rw [Vals.ref1 r]
  exact sum_raw (I.ok.hd hc) hl.isList rv.ints fun h' tk t' hk => ⟨.int _, H, I.kept hk, ⟨_, rfl⟩, q⟩
theorem cr_min (hc : X.calm = true) : CallR X (.builtin "min") (rMin X.K) := by
  intro pins s σ H vs us Q I r h
  obtain ⟨a, ns, rfl, hs, hne, q⟩ := h
  obtain ⟨its, rv, hl, _⟩ := I.list hs
  rw [Vals.ref1 r]
  exact min_raw (I.ok.hd hc) hl.isList rv.ints hne fun h' tk m t' hk h1 h2 => ⟨.int _, H, I.kept hk, ⟨_, rfl⟩, q m h1 h2⟩
end
end L2
namespace L2
open PySem PySem.Spec PyProof.Rows
abbrev CellAt (h : Heap) (c : Addr) (v : Option Value) : Prop := h.IsCell c v
def relS (scope sc : Scope) : Scope :=
  { scope with names := scope.names.map fun (n, k) => if (k == .free && sc.kind == .function && sc.names.lookup n == some .cell) then (n, .cell) else (n, k) }
def cloFrom (cells : List (Str × Addr)) : List (Str × NameKind) → List (Str × Addr) → List (Str × Addr)
  | [], acc => acc
  | (n, k) :: r, acc => if k == .free then cloFrom cells r ((n, (cells.lookup n).getD 0) :: acc) else cloFrom cells r acc
theorem closure_loop (env : Env) (f : Str × NameKind → List (Str × Addr) → Sem (ForInStep (List (Str × Addr))))
    (hf : ∀ n k c, f (n, k) c = if k == .free then (do let a ← cellOf env n; pure (.yield ((n, a) :: c))) else pure (.yield c)) :
    ∀ (names : List (Str × NameKind)) (acc : List (Str × Addr)), (∀ y ∈ names, y.2 = .free → ∃ c, env.cells.lookup y.1 = some c) → forIn names acc f = pure (cloFrom env.cells names acc)
  | [], acc, _ => by rw [List.forIn_nil]; rfl
  | (n, k) :: r, acc, h => by
    rw [List.forIn_cons, hf]
    have ih := fun acc => closure_loop env f hf r acc fun y hy => h y (List.mem_cons_of_mem _ hy)
    unfold cloFrom
    by_cases hk : (k == NameKind.free) = true
    · rw [if_pos hk, if_pos hk]
      obtain ⟨c, hc⟩ := h (n, k) List.mem_cons_self (by simpa using hk)
      have e : cellOf env n = pure c := by unfold cellOf; rw [hc]
      rw [e]
      have e2 : (env.cells.lookup n).getD 0 = c := by rw [hc]; rfl
      rw [e2]
      exact ih _
    · rw [if_neg hk, if_neg hk]
      exact ih _
theorem closure_ok {scope : Scope} {env : Env} (h : ∀ y ∈ scope.names, y.2 = .free → ∃ c, env.cells.lookup y.1 = some c) : closureFor scope env = pure (cloFrom env.cells scope.names []) := by
  simp only [closureFor]
  rw [closure_loop env _ (fun n k c => rfl) scope.names [] h]
  rfl
theorem mem_lookup {α : Type} : ∀ {l : List (Str × α)} {n : Str} {c : α}, (n, c) ∈ l → ∃ c', l.lookup n = some c'
  | (k, v) :: r, n, c, h => by
    rw [List.lookup_cons]
    cases hb : n == k with
    | true => exact ⟨_, rfl⟩
    | false =>
      rcases List.mem_cons.mp h with e | h
      · cases e; simp at hb
      · exact mem_lookup h
theorem cloFrom_mem {cells : List (Str × Addr)} : ∀ {names : List (Str × NameKind)} {acc : List (Str × Addr)} {n : Str} {c : Addr}, (n, c) ∈ cloFrom cells names acc → (n, c) ∈ acc ∨ ((n, .free) ∈ names ∧ c = (cells.lookup n).getD 0)
  | [], _, _, _, h => .inl h
  | (m, k) :: r, acc, n, c, h => by
    unfold cloFrom at h
    split at h
    · rename_i hk
      have hk : k = .free := by simpa using hk
      rcases cloFrom_mem h with h | ⟨h1, h2⟩
      · rcases List.mem_cons.mp h with e | h
        · cases e; exact .inr ⟨hk ▸ List.mem_cons_self, rfl⟩
        · exact .inl h
      · exact .inr ⟨List.mem_cons_of_mem _ h1, h2⟩
    · rcases cloFrom_mem h with h | ⟨h1, h2⟩
      · exact .inl h
      · exact .inr ⟨List.mem_cons_of_mem _ h1, h2⟩
theorem cloFrom_acc {cells : List (Str × Addr)} : ∀ {names : List (Str × NameKind)} {acc : List (Str × Addr)} {p : Str × Addr}, p ∈ acc → p ∈ cloFrom cells names acc
  | [], _, _, h => h
  | (m, k) :: r, acc, p, h => by
    unfold cloFrom
    split
    · exact cloFrom_acc (List.mem_cons_of_mem _ h)
    · exact cloFrom_acc h
theorem cloFrom_has {cells : List (Str × Addr)} : ∀ {names : List (Str × NameKind)} {acc : List (Str × Addr)} {n : Str}, (n, .free) ∈ names → (n, (cells.lookup n).getD 0) ∈ cloFrom cells names acc
  | (m, k) :: r, acc, n, h => by
    unfold cloFrom
    rcases List.mem_cons.mp h with e | h
    · cases e
      exact cloFrom_acc List.mem_cons_self
    · split
      · exact cloFrom_has h
      · exact cloFrom_has h
theorem cells_mem : ∀ {names : List (Str × NameKind)} {h : Heap} {acc : List (Str × Addr)} {x : Str} {c : Addr}, (x, c) ∈ cellsFrom h.objs.size names acc →
    (x, c) ∈ acc ∨ ((x, .cell) ∈ names ∧ h.objs.size ≤ c ∧ CellAt (pushCells h names) c none)
  | [], _, _, _, _, h => .inl h
  | (n, k) :: r, h, acc, x, c, hm => by
    unfold cellsFrom at hm
    unfold pushCells
    split at hm
    · rename_i hk
      rw [if_pos hk]
      have hk : k = .cell := by simpa using hk
      rw [← Heap.size_push h { cls := .type "cell", data := .cell none }] at hm
      rcases cells_mem hm with hm | ⟨h1, h2, h3⟩
      · rcases List.mem_cons.mp hm with e | hm
        · cases e
          exact .inr ⟨hk ▸ List.mem_cons_self, Nat.le_refl _, _, pushCells_keeps r _ _ _ (Heap.get?_push_size _ rfl), rfl⟩
        · exact .inl hm
      · rw [Heap.size_push] at h2
        exact .inr ⟨List.mem_cons_of_mem _ h1, Nat.le_of_succ_le h2, h3⟩
    · rename_i hk
      rw [if_neg hk]
      rcases cells_mem hm with hm | ⟨h1, h2, h3⟩
      · exact .inl hm
      · exact .inr ⟨List.mem_cons_of_mem _ h1, h2, h3⟩
theorem cells_acc : ∀ {names : List (Str × NameKind)} {n : Nat} {acc : List (Str × Addr)} {p : Str × Addr}, p ∈ acc → p ∈ cellsFrom n names acc
  | [], _, _, _, h => h
  | (m, k) :: r, n, acc, p, h => by
    unfold cellsFrom
    split
    · exact cells_acc (List.mem_cons_of_mem _ h)
    · exact cells_acc h
theorem cells_has : ∀ {names : List (Str × NameKind)} {n : Nat} {acc : List (Str × Addr)} {x : Str}, (x, .cell) ∈ names → ∃ c, (x, c) ∈ cellsFrom n names acc
  | (m, k) :: r, n, acc, x, h => by
    unfold cellsFrom
    rcases List.mem_cons.mp h with e | h
    · cases e
      exact ⟨n, cells_acc List.mem_cons_self⟩
    · split
      · exact cells_has h
      · exact cells_has h
theorem cells_inj : ∀ {names : List (Str × NameKind)} {h : Heap} {acc : List (Str × Addr)} {x y : Str} {c : Addr}, (∀ p ∈ acc, p.2 < h.objs.size) → (∀ x y c, (x, c) ∈ acc → (y, c) ∈ acc → x = y) →
    (x, c) ∈ cellsFrom h.objs.size names acc → (y, c) ∈ cellsFrom h.objs.size names acc → x = y
  | [], _, _, _, _, _, _, hi, h1, h2 => hi _ _ _ h1 h2
  | (n, k) :: r, h, acc, x, y, c, hl, hi, h1, h2 => by
    unfold cellsFrom at h1 h2
    split at h1
    · rename_i hk
      rw [if_pos hk] at h2
      rw [← Heap.size_push h { cls := .type "cell", data := .cell none }] at h1 h2
      refine cells_inj (h := h.push _) (fun p hp => ?_) (fun x y c a b => ?_) h1 h2
      · rw [Heap.size_push]
        rcases List.mem_cons.mp hp with rfl | hp
        · exact Nat.lt_succ_self _
        · exact Nat.lt_succ_of_lt (hl p hp)
      · rcases List.mem_cons.mp a with e | a <;> rcases List.mem_cons.mp b with e' | b
        · cases e; cases e'; rfl
        · cases e; exact absurd (hl _ b) (Nat.lt_irrefl _)
        · cases e'; exact absurd (hl _ a) (Nat.lt_irrefl _)
        · exact hi _ _ _ a b
    · rename_i hk
      rw [if_neg hk] at h2
      exact cells_inj hl hi h1 h2
theorem newEnv_comp {M : Model} {A : Around} {E : Value → Shared → Prop} {s : Shared} {scope : Scope} {globals : Addr} {closure : List (Str × Addr)} {qual : Str} {func : Option Addr} {code : Value} {around : Env} {builtins : Addr} {Q : Env → Shared → Prop}
    (h : Q (newEnv scope s.heap.objs.size globals (cellsFrom (s.heap.objs.size + 1) scope.names closure) qual func code (some around) builtins)
      { s with heap := pushCells (s.heap.push { cls := .type "dict", data := .dict #[] }) scope.names }) :
    wpAny M A (newFunctionEnv scope globals closure [] qual func code (some around) builtins) Q E s := by
  simp only [newFunctionEnv, Option.isSome_some, if_true]
  refine wpAny_bind (wpAny_alloc ?_)
  refine wpAny_bind (wpAny_layCells _ (fun n k c => rfl) scope.names closure _ _ ?_)
  rw [show ({ s with heap := s.heap.push { cls := .type "dict", data := .dict #[] } } : Shared).heap.objs.size = s.heap.objs.size + 1 from Heap.size_push ..]
  rw [List.forIn_nil]
  exact wpAny_bind (wpAny_pure (wpAny_pure h))
theorem lookup_relS {sc : Scope} : ∀ {names : List (Str × NameKind)} {x : Str} {k : NameKind},
    (names.map fun (n, k) => if (k == NameKind.free && sc.kind == .function && sc.names.lookup n == some .cell) then (n, NameKind.cell) else (n, k)).lookup x = some k →
    ∃ k', names.lookup x = some k' ∧ (k = k' ∨ (k' = .free ∧ k = .cell))
  | [], _, _, h => by simp at h
  | (n, k₀) :: r, x, k, h => by
    have ih := @lookup_relS sc r x k
    have h' : List.lookup x ((if (k₀ == NameKind.free && sc.kind == .function && sc.names.lookup n == some .cell) = true then (n, NameKind.cell) else (n, k₀)) :: (r.map _)) = some k := h
    cases hx : x == n with
    | true =>
      simp only [List.lookup_cons, hx]
      by_cases hc : (k₀ == NameKind.free && sc.kind == .function && sc.names.lookup n == some .cell) = true
      · rw [if_pos hc] at h'
        simp only [List.lookup_cons, hx] at h'
        cases h'
        simp only [Bool.and_eq_true, beq_iff_eq] at hc
        exact ⟨k₀, rfl, .inr ⟨hc.1.1, rfl⟩⟩
      · rw [if_neg hc] at h'
        simp only [List.lookup_cons, hx] at h'
        cases h'
        exact ⟨_, rfl, .inl rfl⟩
    | false =>
      simp only [List.lookup_cons, hx]
      by_cases hc : (k₀ == NameKind.free && sc.kind == .function && sc.names.lookup n == some .cell) = true
      · rw [if_pos hc] at h'
        simp only [List.lookup_cons, hx] at h'
        exact ih h'
      · rw [if_neg hc] at h'
        simp only [List.lookup_cons, hx] at h'
        exact ih h'
structure BlkOk (N : List Str) (sc scope : Scope) (own : List (Str × Nat)) : Prop where
  kind : scope.kind = .function
  uniq : ∀ y ∈ scope.names, scope.names.lookup y.1 = some y.2
  ix : ∀ p ∈ own, N[p.2]? = some p.1
  free : ∀ y ∈ scope.names, y.2 = .free → sc.names.lookup y.1 = some .cell ∨ sc.names.lookup y.1 = some .free
  own : ∀ y ∈ scope.names, y.2 = .local ∨ y.2 = .cell → y.1 ∈ own.map (·.1) ∨ y.1 ∉ N
def wipe (σ : St) : List Nat → St
  | [] => σ
  | v :: vs => (wipe σ vs).set v none
theorem wipe_length (σ : St) : ∀ vs : List Nat, (wipe σ vs).length = σ.length
  | [] => rfl
  | v :: vs => by unfold wipe; rw [List.length_set, wipe_length σ vs]
theorem wipe_some {σ : St} {i : Nat} {x : V} : ∀ {vs : List Nat}, (wipe σ vs)[i]? = some (some x) → σ[i]? = some (some x) ∧ i ∉ vs
  | [], h => ⟨h, by simp⟩
  | v :: vs, h => by
    unfold wipe at h
    by_cases hi : v = i
    · subst hi
      by_cases hv : v < (wipe σ vs).length
      · rw [List.getElem?_set_self hv] at h; cases h
      · rw [List.getElem?_eq_none (by simpa using hv)] at h; cases h
    · rw [List.getElem?_set_ne hi] at h
      obtain ⟨h1, h2⟩ := wipe_some h
      exact ⟨h1, by simp only [List.mem_cons, not_or]; exact ⟨fun e => hi e.symm, h2⟩⟩
abbrev Cx.blk (X : Cx) (s : Shared) (H : Hp) (scope : Scope) (cenv : Env) (fp : List Addr) : Cx := { X with s₀ := s, H₀ := H, env := cenv, outer := X.stack, ex := fp, fn := fun x => scope.names.lookup x == some .cell, pn := [], xe := fun _ _ => False }
section
variable {X : Cx} {pins : List (Addr × Obj)} {σ : St} {H : Hp} {s : Shared}
theorem block_start {scope : Scope} {own : List (Str × Nat)} {fp : List Addr} (I : Inv X pins σ H s) (ok : BlkOk X.N X.env.scope scope own) (hN : X.N.Nodup) (hfp : ∀ b ∈ fp, FpOk X pins H b ∧ b < s.heap.objs.size) :
    Inv (X.blk s H scope (compEnvC scope (cellsFrom (s.heap.objs.size + 1) scope.names (cloFrom X.env.cells scope.names [])) s.heap.objs.size X.env) fp) [] (wipe σ (own.map (·.2))) H { s with heap := pushCells (s.heap.push { cls := .type "dict", data := .dict #[] }) scope.names } := by
  have hfree : ∀ y ∈ scope.names, y.2 = .free → ∃ c, X.env.cells.lookup y.1 = some c := fun y hy e => by
    rcases ok.free y hy e with k | k
    · exact I.ok.has _ (.inl k)
    · exact I.ok.has _ (.inr k)
  generalize hcenv : compEnvC scope (cellsFrom (s.heap.objs.size + 1) scope.names (cloFrom X.env.cells scope.names [])) s.heap.objs.size X.env = cenv
  have kp : ∀ b o, s.heap.get? b = some o → (pushCells (s.heap.push { cls := .type "dict", data := .dict #[] }) scope.names).get? b = some o := fun b o e => pushCells_keeps _ _ _ _ (Heap.get?_push_of_some _ e)
  have hL : cenv.locals = s.heap.objs.size := by rw [← hcenv]; rfl
  have hcl : cenv.cells = cellsFrom (s.heap.objs.size + 1) scope.names (cloFrom X.env.cells scope.names []) := by rw [← hcenv]; rfl
  have hsc : cenv.scope = relS scope X.env.scope := by rw [← hcenv]; rfl
  rw [← Heap.size_push s.heap { cls := .type "dict", data := .dict #[] }] at hcl
  have cm : ∀ {y c}, (y, c) ∈ cloFrom X.env.cells scope.names [] → X.env.cells.lookup y = some c ∧ c < s.heap.objs.size := fun {y c} hm => by
    rcases cloFrom_mem hm with hm | ⟨h1, rfl⟩
    · cases hm
    · obtain ⟨c, hc⟩ := hfree _ h1 rfl
      rw [hc]
      obtain ⟨w, z⟩ := I.cell _ _ hc
      exact ⟨rfl, z.lt⟩
  have mem : ∀ {y c}, cenv.cells.lookup y = some c → (X.env.cells.lookup y = some c ∧ c < s.heap.objs.size) ∨ (s.heap.objs.size + 1 ≤ c ∧ CellAt (pushCells (s.heap.push { cls := .type "dict", data := .dict #[] }) scope.names) c none) := fun {y c} e => by
    rw [hcl] at e
    rcases cells_mem (PySem.mem_of_lookup e) with hm | ⟨_, h2, h3⟩
    · exact .inl (cm hm)
    · rw [Heap.size_push] at h2; exact .inr ⟨h2, h3⟩
  have look : ∀ {y}, scope.names.lookup y = some .free → ∃ c, cenv.cells.lookup y = some c ∧ X.env.cells.lookup y = some c := fun {y} hl => by
    have hy : (y, NameKind.free) ∈ scope.names := PySem.mem_of_lookup hl
    obtain ⟨c', e'⟩ := mem_lookup (cells_acc (names := scope.names) (n := (s.heap.push { cls := .type "dict", data := .dict #[] }).objs.size) (cloFrom_has (cells := X.env.cells) (acc := []) hy))
    rw [← hcl] at e'
    refine ⟨c', e', ?_⟩
    rw [hcl] at e'
    rcases cells_mem (PySem.mem_of_lookup e') with hm | ⟨h1, _, _⟩
    · exact (cm hm).1
    · have := ok.uniq _ h1
      rw [hl] at this; cases this
  have okB : (X.blk s H scope cenv fp).Ok := by
    refine ⟨I.ok.mod, by show cenv.scope.kind = _; rw [hsc]; exact ok.kind, by show cenv.globals = _; rw [← hcenv]; exact I.ok.glob, by show cenv.builtins = _; rw [← hcenv]; exact I.ok.blt, by show s.heap.objs.size ≤ cenv.locals; rw [hL]; exact Nat.le_refl _,
      fun y z c e1 e2 => ?_, fun y hy => ?_, fun y c z e => ?_, I.ok.hd, I.ok.frames, .inl rfl, fun b hb => ⟨?_, fun y c e z => ?_⟩, I.bs, Nat.le_trans I.ok.bsz I.sz, fun b o e hb => ?_, fun b hb z => ?_, I.stack, I.stkFree⟩
    · have e1 : cenv.cells.lookup y = some c := e1
      have e2 : cenv.cells.lookup z = some c := e2
      rw [hcl] at e1 e2
      refine cells_inj (fun p hp => ?_) (fun y z c a b => I.ok.inj y z c (cm a).1 (cm b).1) (PySem.mem_of_lookup e1) (PySem.mem_of_lookup e2)
      rw [Heap.size_push]
      exact Nat.lt_succ_of_lt (cm (y := p.1) (c := p.2) hp).2
    · show ∃ c, cenv.cells.lookup y = some c
      have key : ∀ k, cenv.kindOf y = some k → (k = .cell ∨ k = .free) → ∃ c, cenv.cells.lookup y = some c := fun k hk hk' => by
        unfold Env.kindOf at hk
        rw [hsc] at hk
        obtain ⟨k', e, r⟩ := lookup_relS hk
        have : k' = .cell ∨ k' = .free := by
          rcases r with rfl | ⟨rfl, _⟩
          · exact hk'
          · exact .inr rfl
        rcases this with rfl | rfl
        · obtain ⟨c, hm⟩ := cells_has (n := (s.heap.push { cls := .type "dict", data := .dict #[] }).objs.size) (acc := cloFrom X.env.cells scope.names []) (PySem.mem_of_lookup e)
          obtain ⟨c', e'⟩ := mem_lookup hm
          exact ⟨c', by rw [hcl]; exact e'⟩
        · obtain ⟨c, h1, _⟩ := look e
          exact ⟨c, h1⟩
      rcases hy with hy | hy
      · exact key _ hy (.inl rfl)
      · exact key _ hy (.inr rfl)
    · have z : (scope.names.lookup y == some NameKind.cell) = true := z
      have z : scope.names.lookup y = some .cell := by simpa using z
      have e : cenv.cells.lookup y = some c := e
      rw [hcl] at e
      rcases cells_mem (PySem.mem_of_lookup e) with hm | ⟨_, h2, _⟩
      · rcases cloFrom_mem hm with hm | ⟨h1, _⟩
        · cases hm
        · have q := ok.uniq _ h1
          rw [z] at q; cases q
      · rw [Heap.size_push] at h2
        exact Nat.le_of_succ_le h2
    · show b ≠ cenv.locals
      rw [hL]; exact Nat.ne_of_lt (hfp b hb).2
    · have e : cenv.cells.lookup y = some c := e
      rcases mem e with ⟨h1, _⟩ | ⟨h1, _⟩
      · exact (hfp b hb).1.2.2.2.2.1 y c h1 z
      · have h2 : s.heap.objs.size + 1 ≤ b := by rw [← z]; exact h1
        exact absurd (Nat.lt_of_lt_of_le (hfp b hb).2 (Nat.le_of_succ_le h2)) (Nat.lt_irrefl _)
    · rcases (hfp b hb).1.2.2.2.1 with z | z
      · exact I.ok.noex b o e z
      · exact absurd (Nat.lt_of_lt_of_le (Heap.lt_size e) (Nat.le_trans I.ok.bsz z)) (Nat.lt_irrefl _)
    · rcases List.mem_cons.mp (I.stkSub b z) with z | z
      · exact (hfp b hb).1.2.1 z
      · exact (hfp b hb).1.2.2.1 z
  refine ⟨okB, rfl, I.bare, Un.kept kp, ⟨fun _ => none, ?_, fun i y av e1 e2 e3 => ?_⟩, fun y c e => ?_, ?_, fun y c e => ?_, fun p hp => ?_, I.hok.kept kp, by rw [wipe_length]; exact I.len⟩
  · show Heap.Ns _ cenv.locals _
    rw [hL]
    exact Heap.Ns.keeps (Heap.Ns.new ..) fun b o e => pushCells_keeps _ _ _ _ e
  · obtain ⟨e2, hne⟩ := wipe_some e2
    have hfr : scope.names.lookup y = some .free ∧ (cenv.kindOf y = some .cell ∨ cenv.kindOf y = some .free) := by
      have key : ∀ k, cenv.scope.names.lookup y = some k → k = .local ∨ k = .cell ∨ k = .free → scope.names.lookup y = some .free ∧ (cenv.kindOf y = some .cell ∨ cenv.kindOf y = some .free) := fun k hk hk' => by
        have hk0 := hk
        rw [hsc] at hk
        obtain ⟨k', e, r⟩ := lookup_relS hk
        have no : ¬ (k' = .local ∨ k' = .cell) := fun hh => by
          rcases ok.own _ (PySem.mem_of_lookup e) hh with e' | e'
          · obtain ⟨p, hp, hpy⟩ := List.mem_map.mp e'
            have e3 := ok.ix p hp
            have : p.1 = y := hpy
            rw [this] at e3
            exact hne (List.mem_map.mpr ⟨p, hp, nodup_ix hN e3 e1⟩)
          · exact e' (List.mem_of_getElem? e1)
        rcases r with rfl | ⟨rfl, rfl⟩
        · rcases hk' with rfl | rfl | rfl
          · exact absurd (.inl rfl) no
          · exact absurd (.inr rfl) no
          · exact ⟨e, .inr hk0⟩
        · exact ⟨e, .inl hk0⟩
      have e3 : Vis cenv.scope y := e3
      rcases e3 with e3 | e3 | e3
      · exact key _ e3 (.inl rfl)
      · exact key _ e3 (.inr (.inl rfl))
      · exact key _ e3 (.inr (.inr rfl))
    obtain ⟨m, hn, hl⟩ := I.loc
    have hvis : Vis X.env.scope y := (ok.free _ (PySem.mem_of_lookup hfr.1) rfl).elim (fun k => .inr (.inl k)) (fun k => .inr (.inr k))
    obtain ⟨w, r, q⟩ := hl i y av e1 e2 hvis
    refine ⟨w, r, .inr ⟨hfr.2, ?_⟩⟩
    obtain ⟨c, h1, h2⟩ := look hfr.1
    rcases q with ⟨k, _⟩ | ⟨_, c', e', z⟩
    · have k : X.env.scope.names.lookup y = some .local := k
      rcases ok.free _ (PySem.mem_of_lookup hfr.1) rfl with k' | k' <;> rw [show X.env.scope.names.lookup y = _ from k'] at k <;> cases k
    · rw [h2] at e'; cases e'
      exact ⟨c, h1, z.keeps kp⟩
  · have e : cenv.cells.lookup y = some c := e
    rcases mem e with ⟨h1, _⟩ | ⟨_, z⟩
    · obtain ⟨w, z⟩ := I.cell y c h1
      exact ⟨w, z.keeps kp⟩
    · exact ⟨_, z⟩
  · show H cenv.locals = none
    rw [hL]; exact I.hok.fresh (Nat.le_refl _)
  · have e : cenv.cells.lookup y = some c := e
    rcases mem e with ⟨h1, _⟩ | ⟨h1, _⟩
    · exact I.freeC y c h1
    · exact I.hok.fresh (Nat.le_of_succ_le h1)
  · exact absurd (show p ∈ ([] : List (Addr × Obj)) ++ [] from hp) (by simp)
theorem app_ok {E : Value → Shared → Prop} {D : Addr} {xs : List V} {y : V} {v : Value} {Q : Value → Shared → Prop} (I : Inv X pins σ H s) (hD : H D = some (.lst xs)) (hz : xs.length < sizeLine) (r : RelV y v)
    (h : ∀ s', Inv X pins σ (upd H D (.lst (xs ++ [y]))) s' → Q .none s') : wpAny (model X.prog X.w) X.A (call (.builtin "list.append") [.ref D, v]) Q E s := by
  obtain ⟨hz', its, n, ri, e⟩ := I.hok D _ hD
  have hl := ri.length
  refine append_at (hsz := by rw [List.size_toArray]; omega) e fun h' sb ho' => ?_
  refine h { s with heap := h' } (I.write (t' := s.toks) (by rw [hD]; trivial) (.inl rfl) (fun b u hb q => (sb.2 b hb).trans q) ⟨_, ho'⟩ ⟨by rw [List.length_append]; exact hz, its ++ [v], n + 1, ri.append (.cons r .nil), ?_⟩)
  rw [ho']
  simp
def PTs (X : Cx) (ifs : List Expr) (t : TT) : Prop :=
  ∀ (pins : List (Addr × Obj)) (s : Shared) (σ : St) (H : Hp) (Q : Bool → Hp → Prop), Inv X pins σ H s → t σ H Q →
    wpAny (model X.prog X.w) X.A (forIn ifs true fun c r => if r = true then do let ok ← isTrue c X.env (eval c X.env); pure (ForInStep.yield ok) else pure (ForInStep.yield r)) (TP X pins σ Q) X.xe s
def tYes : TT := fun _ H Q => Q true H
theorem pts_nil : PTs X [] tYes := fun _ _ _ H _ I h => wpAny_tests_nil ⟨H, I, h⟩
theorem pts_one {c : Expr} {t : TT} (h : PT X c t) : PTs X [c] t := fun pins s σ H Q I hw => wpAny_tests_one (h pins s σ H Q I hw)
end
theorem thnF {α : Type} {t : Sem α} {Q Q' : α → Shared → Prop} {M : Model} {A : Around} {E : Value → Shared → Prop} {s : Shared} (h : wpAny M A t Q (fun _ _ => False) s) (hQ : ∀ a s, Q a s → Q' a s) : wpAny M A t Q' E s := wpAny_mono h hQ fun _ _ z => False.elim z
theorem compLoop_any {prog : Program} {w : World} {A : Around} {R : Result → Shared → Prop} {s : Shared} {elt target iter : Expr} {ifs : List Expr} {scope : Scope} {pos : Pos} {it acc : Value} {env : Env} (I : Nat → Shared → Prop)
    (turn : ∀ n s, I n s → wpAny (model prog w) A (pyNext it) (fun r s₁ => match r with
      | none => R (.ok .next) s₁
      | some v => wpAny (model prog w) A (letOwnedTupleGo target it v) (fun _ s₁' => wpAny (model prog w) A (assign target env v) (fun _ s₂ =>
          wpAny (model prog w) A (forIn ifs true fun c r => if r = true then do let ok ← isTrue c env (eval c env); pure (ForInStep.yield ok) else pure (ForInStep.yield r)) (fun ok s₃ =>
            if ok = true then wpAny (model prog w) A (eval elt env) (fun x s₄ =>
              wpAny (model prog w) A (call (.builtin "list.append") [acc, x]) (fun _ s₅ => ∃ m, m < n ∧ I m s₅) (notedBy (model prog w) A env fun e s' => R (.error e) s') s₄) (notedBy (model prog w) A env fun e s' => R (.error e) s') s₃
            else ∃ m, m < n ∧ I m s₃) (notedBy (model prog w) A env fun e s' => R (.error e) s') s₂) (notedBy (model prog w) A env fun e s' => R (.error e) s') s₁') (notedBy (model prog w) A env fun e s' => R (.error e) s') s₁) (notedBy (model prog w) A env fun e s' => R (.error e) s') s)
    (n : Nat) (h : I n s) :
    codeAny (model prog w) A (.compLoop (.ListComp elt [⟨target, iter, ifs, 0⟩] scope pos) 0 it acc env) R s := by
  refine codeAny_loop rfl I (fun n s hI => ?_) n h
  show wpAny _ A ((compTurn (.ListComp elt [⟨target, iter, ifs, 0⟩] scope pos) 0 it acc env).onRaise (fun x => do noteFrame x env; theTreesLotGoes x)) _ _ s
  refine wpAny_noted ?_
  rw [compTurn_list]
  refine wpAny_bind (wpAny_standAt (wpAny_bind (wpAny_mono (turn n s hI) (fun r s₁ h₁ => ?_) fun _ _ h' => h')))
  cases r with
  | none => exact wpAny_pure h₁
  | some v =>
    refine wpAny_bind (wpAny_mono h₁ (fun _ s₁' h₁' => ?_) fun _ _ h' => h')
    refine wpAny_bind (wpAny_mono h₁' (fun _ s₂ h₂ => wpAny_bind (wpAny_mono h₂ (fun ok s₃ h₃ => ?_) fun _ _ h' => h')) fun _ _ h' => h')
    cases ok with
    | false => exact wpAny_pure ⟨rfl, h₃⟩
    | true =>
      exact wpAny_bind (wpAny_bind (wpAny_mono h₃ (fun x s₄ h₄ => wpAny_bind (wpAny_mono h₄ (fun _ s₅ h₅ => wpAny_pure (wpAny_pure ⟨rfl, h₅⟩)) fun _ _ h' => h')) fun _ _ h' => h'))
section
variable {X : Cx}
def tLc (wi : TI) (g : TG) (tt : TT) (te : TE) (vs : List Nat) : TE := fun σ H Q => wi σ H fun J H1 => ∀ D, H1 D = none → ∃ W : Nat → Nat → Hp → Prop, (∃ m, W 0 m (upd H1 D (.lst []))) ∧ ∀ i m H, W i m H →
  (J.stop i H ∧ Q (.ref D) H) ∨ (J.go i H ∧ ∃ Nx : Hp → Prop, (∀ H', Nx H' → ∃ m', m' < m ∧ W (i + 1) m' H') ∧ ∀ x H', J.yld i H x H' → g x (wipe σ vs) H' fun σ2 H2 => wipe σ2 vs = wipe σ vs ∧ tt σ2 H2 fun b H3 =>
    if b = true then te σ2 H3 fun y H4 => ∃ acc, H4 D = some (.lst acc) ∧ acc.length < sizeLine ∧ Nx (upd H4 D (.lst (acc ++ [y]))) else Nx H3)
theorem lc_core {pins : List (Addr × Obj)} {s : Shared} {σ : St} {H : Hp} {Q : VK} {elt tg iter : Expr} {ifs : List Expr} {scope : Scope} {own : List (Str × Nat)} {pos pos' : Pos} {wi : TI} {g : TG} {tt : TT} {te : TE} {use : Option (Value → Sem Unit)} {Qf : Value → Shared → Prop}
    (hc : X.calm = true) (hN : X.N.Nodup) (I : Inv X pins σ H s) (hi : PI X tg iter wi) (ok : BlkOk X.N X.env.scope scope own)
    (hg : ∀ (s : Shared) (H : Hp) (C : Addr) (cl : List (Str × Addr)) (fp : List Addr), PG (X.blk s H scope (compEnvC scope cl C X.env) fp) tg g) (ht : ∀ (s : Shared) (H : Hp) (C : Addr) (cl : List (Str × Addr)) (fp : List Addr), PTs (X.blk s H scope (compEnvC scope cl C X.env) fp) ifs tt)
    (he : ∀ (s : Shared) (H : Hp) (C : Addr) (cl : List (Str × Addr)) (fp : List Addr), PE (X.blk s H scope (compEnvC scope cl C X.env) fp) elt te) (hs : ∀ x, foldedSetIterable iter X.env x = pure x)
    (h : tLc wi g tt te (own.map (·.2)) σ H Q)
    (hRR : ∀ D C s' m H', Inv X pins σ H' s' → Q (.ref D) H' → s'.heap.Ns C m → FpOk X pins H' C → compPost (model X.prog X.w) X.A X.xe use Qf (.ref D) C (.ok .next) s') :
    wpAny (model X.prog X.w) X.A (comprehension (.ListComp elt [⟨tg, iter, ifs, 0⟩] scope pos) scope X.env pos' (newList []) false (eval iter X.env) use) Qf X.xe s := by
  have hfree : ∀ y ∈ scope.names, y.2 = .free → ∃ c, X.env.cells.lookup y.1 = some c := fun y hy e => by
    rcases ok.free y hy e with k | k
    · exact I.ok.has _ (.inl k)
    · exact I.ok.has _ (.inr k)
  refine wpAny_comprehension_free (use := use) rfl hs (closure_ok hfree) ok.kind (fun y hy e => by rw [ok.uniq y hy, e])
    (thn (hi pins s σ H _ I h) fun xv s1 hx => thn hx fun itv s2 h2 => ?_)
  obtain ⟨it, fp, tn, J, H2, e, I2, T, st2, f2, q⟩ := h2
  subst e
  refine wpAny_newObj_type (newEnv_comp ?_) (by show 0 ≤ sizeLine; decide)
  generalize hD : s2.heap.objs.size = D
  have hDn : H2 D = none := I2.hok.fresh (Nat.le_of_eq hD)
  obtain ⟨W, ⟨m0, w0⟩, turn⟩ := q D hDn
  generalize hs3 : ({ s2 with heap := s2.heap.push { cls := .type "list", data := .seq ([] : List Value).toArray } } : Shared) = s3
  have I3 : Inv X pins σ (upd H2 D (.lst [])) s3 := by
    rw [← hs3]
    refine I2.laid (t' := s2.toks) (fun b o e => Heap.get?_push_of_some _ e) (Nat.le_of_eq hD) ⟨Nat.zero_le _, [], 0, .nil, ?_⟩
    rw [← hD]
    exact Heap.get?_push_size _ rfl
  have h3 : s3.heap = s2.heap.push { cls := .type "list", data := .seq ([] : List Value).toArray } := by rw [← hs3]
  have sz : ∀ b ∈ fp, b < s2.heap.objs.size := fun b hb => by
    obtain ⟨o, e, _⟩ := T.obj _ _ st2 b hb
    exact Heap.lt_size e
  have f3 : ∀ b ∈ fp, FpOk X pins (upd H2 D (.lst [])) b ∧ b < s3.heap.objs.size := fun b hb => by
    have hlt := sz b hb
    refine ⟨⟨?_, (f2 b hb).2⟩, by rw [h3, Heap.size_push]; exact Nat.lt_succ_of_lt hlt⟩
    rw [upd_ne (by rw [← hD]; exact Nat.ne_of_lt hlt)]
    exact (f2 b hb).1
  have st3 : tn 0 s3.heap := T.keep _ _ _ st2 fun b _ o e => by rw [h3]; exact Heap.get?_push_of_some _ e
  have I4 := block_start I3 ok hN f3
  have pg := hg s3 (upd H2 D (.lst [])) s3.heap.objs.size (cellsFrom (s3.heap.objs.size + 1) scope.names (cloFrom X.env.cells scope.names [])) fp
  have pt := ht s3 (upd H2 D (.lst [])) s3.heap.objs.size (cellsFrom (s3.heap.objs.size + 1) scope.names (cloFrom X.env.cells scope.names [])) fp
  have pe := he s3 (upd H2 D (.lst [])) s3.heap.objs.size (cellsFrom (s3.heap.objs.size + 1) scope.names (cloFrom X.env.cells scope.names [])) fp
  show codeAny _ _ (.compStart (.ListComp elt [⟨tg, iter, ifs, 0⟩] scope pos) 0 (.ref it) (.ref D) (compEnvC scope (cellsFrom (s3.heap.objs.size + 1) scope.names (cloFrom X.env.cells scope.names [])) s3.heap.objs.size X.env)) (compPost (model X.prog X.w) X.A X.xe use Qf (.ref D) s3.heap.objs.size) { s3 with heap := pushCells (s3.heap.push { cls := .type "dict", data := .dict #[] }) scope.names }
  have nfp : ∀ b ∈ fp, (upd H2 D (.lst [])) b = none := fun b hb => (f3 b hb).1.1
  generalize hce : compEnvC scope (cellsFrom (s3.heap.objs.size + 1) scope.names (cloFrom X.env.cells scope.names [])) s3.heap.objs.size X.env = ce at I4 pg pt pe ⊢
  have cL : ce.locals = s3.heap.objs.size := by subst hce; rfl
  generalize hH3 : upd H2 D (.lst []) = H3 at I3 I4 pg pt pe w0 nfp f3
  generalize hs4 : ({ s3 with heap := pushCells (s3.heap.push { cls := .type "dict", data := .dict #[] }) scope.names } : Shared) = s4 at I4 ⊢
  have st4 : tn 0 s4.heap := T.keep _ _ _ st3 fun b _ o e => by rw [← hs4]; exact pushCells_keeps _ _ _ _ (Heap.get?_push_of_some _ e)
  have stat : ∀ {σ' : St} {H' : Hp} {s' : Shared}, Inv (X.blk s3 H3 scope ce fp) [] σ' H' s' → (∀ b ∈ fp, H' b = none) → ∀ b ∈ fp, FpOk (X.blk s3 H3 scope ce fp) [] H' b := fun {σ' H' s'} I' hn b hb =>
    ⟨hn b hb, (I'.ok.exf b hb).1, I'.ok.exfs b hb, .inl hb, fun x c e => (I'.ok.exf b hb).2 x c e, fun p hp => absurd (show p ∈ ([] : List (Addr × Obj)) ++ [] from hp) (by simp)⟩
  have loop : codeAny (model X.prog X.w) X.A (.compLoop (.ListComp elt [⟨tg, iter, ifs, 0⟩] scope pos) 0 (.ref it) (.ref D) ce) (compPost (model X.prog X.w) X.A X.xe use Qf (.ref D) s3.heap.objs.size) s4 := by
    refine compLoop_any (fun n s' => ∃ i H', Inv (X.blk s3 H3 scope ce fp) [] (wipe σ (own.map (·.2))) H' s' ∧ tn i s'.heap ∧ (∀ b ∈ fp, H' b = none) ∧ W i n H') ?_ m0 ⟨0, H3, I4, st4, nfp, w0⟩
    rintro n s5 ⟨i, H5, I5, st5, n5, w5⟩
    rcases turn i n H5 w5 with ⟨stop, qq⟩ | ⟨go, Nx, hNx, step⟩
    · have td := T.done (X.blk s3 H3 scope ce fp) rfl rfl rfl hc i [] s5 _ H5 (fun _ _ => False) I5 (stat I5 n5) st5 stop
      refine thnF td fun r s6 ⟨hr, I6⟩ => ?_
      subst hr
      have I7 : Inv X pins σ H5 s6 := I3.call' (ch := fp) I6.os I6.base I6.hok I6.bare fun b hb => ⟨(f3 b hb).1.2.2.2.1, (f3 b hb).1.2.1, (f3 b hb).1.2.2.2.2.1, (f3 b hb).1.2.2.2.2.2⟩
      have nC : H5 s3.heap.objs.size = none := by
        have z : H5 ce.locals = none := I6.free
        rw [cL] at z
        exact z
      obtain ⟨m, hn, _⟩ := I6.loc
      have hn : s6.heap.Ns ce.locals m := hn
      rw [cL] at hn
      exact hRR D s3.heap.objs.size s6 m H5 I7 qq hn (I3.fpOk (Nat.le_refl _) nC)
    · have ti := T.item (X.blk s3 H3 scope ce fp) rfl rfl rfl hc i [] s5 _ H5 (fun _ _ => False) I5 (stat I5 n5) st5 go
      refine thnF ti fun r s6 ⟨u, hr, h6⟩ => ?_
      subst hr
      refine thnF h6 fun _ s7 ⟨x, H7, I7, r7, y7, st7, n7⟩ => ?_
      have I7' := I7.pinned (stat I7 n7) (T.obj _ _ st7)
      refine thnF (pg _ s7 _ H7 x u _ I7' r7 (step x H7 y7)) fun _ s8 ⟨σ8, H8, I8, hw8, q8⟩ => ?_
      refine thnF (pt _ s8 σ8 H8 _ I8 q8) fun b s9 ⟨H9, I9, q9⟩ => ?_
      have fin : ∀ {s' : Shared} {H' : Hp}, Inv (X.blk s3 H3 scope ce fp) ([] ++ pinsAt fp s7.heap) σ8 H' s' → Nx H' → ∃ m, m < n ∧ ∃ i H', Inv (X.blk s3 H3 scope ce fp) [] (wipe σ (own.map (·.2))) H' s' ∧ tn i s'.heap ∧ (∀ b ∈ fp, H' b = none) ∧ W i m H' := fun {s' H'} I' nx => by
        obtain ⟨m', hm, w'⟩ := hNx H' nx
        have pin' : ∀ b ∈ fp, ∀ o, s7.heap.get? b = some o → s'.heap.get? b = some o ∧ H' b = none := fun b hb o e =>
          let z := I'.pin (b, o) (List.mem_append_right _ (List.mem_append_right _ (mem_pinsAt hb e)))
          ⟨z.1, z.2.1⟩
        have hl : (wipe σ (own.map (·.2))).length = σ8.length := by rw [← hw8, wipe_length]
        refine ⟨m', hm, i + 1, H', (I'.unpinned (pins := [])).weak hl (fun j v e => ?_), T.keep _ _ _ st7 fun b hb o e => (pin' b hb o e).1, fun b hb => ?_, w'⟩
        · rw [← hw8] at e
          exact (wipe_some e).1
        · obtain ⟨o, e, _⟩ := T.obj _ _ st7 b hb
          exact (pin' b hb o e).2
      cases b with
      | false =>
        simp only [Bool.false_eq_true, if_false] at q9 ⊢
        exact fin I9 q9
      | true =>
        simp only [if_true] at q9 ⊢
        refine thnF (pe _ s9 σ8 H9 _ I9 q9) fun z s10 ⟨yv, H10, I10, r10, acc, hD10, hz10, nx⟩ => ?_
        exact app_ok (X := X.blk s3 H3 scope ce fp) I10 hD10 hz10 r10 fun s11 I11 => fin I11 nx
  exact codeAny_compStart_list loop (T.self X.A 0 _ _ _ st4 loop)
theorem pe_lc {elt tg iter : Expr} {ifs : List Expr} {scope : Scope} {own : List (Str × Nat)} {pos : Pos} {wi : TI} {g : TG} {tt : TT} {te : TE} (hc : X.calm = true) (hN : X.N.Nodup) (hi : PI X tg iter wi) (ok : BlkOk X.N X.env.scope scope own)
    (hg : ∀ (s : Shared) (H : Hp) (C : Addr) (cl : List (Str × Addr)) (fp : List Addr), PG (X.blk s H scope (compEnvC scope cl C X.env) fp) tg g) (ht : ∀ (s : Shared) (H : Hp) (C : Addr) (cl : List (Str × Addr)) (fp : List Addr), PTs (X.blk s H scope (compEnvC scope cl C X.env) fp) ifs tt)
    (he : ∀ (s : Shared) (H : Hp) (C : Addr) (cl : List (Str × Addr)) (fp : List Addr), PE (X.blk s H scope (compEnvC scope cl C X.env) fp) elt te) (hs : ∀ x, foldedSetIterable iter X.env x = pure x := by intro _; rfl) :
    PE X (.ListComp elt [⟨tg, iter, ifs, 0⟩] scope pos) (tLc wi g tt te (own.map (·.2))) := by
  intro pins s σ H Q I h
  rw [eval_ListComp]
  refine lc_core hc hN I hi ok hg ht he hs h fun D C s' m H' I' q hn f => ⟨m, hn, fun h'' sb => ?_⟩
  obtain ⟨f0, f1, f2, f3, f4, f5⟩ := f
  exact ⟨.ref D, H', I'.turned (t' := s'.toks) (fun b o hb e => (sb.2 b hb).trans e) f0 f1 f3 f4 f5, rfl, q⟩
theorem ps_setLc {i : Nat} {y : Str} {py : Pos} {elt tg iter : Expr} {ifs : List Expr} {scope : Scope} {own : List (Str × Nat)} {pos spos : Pos} {wi : TI} {g : TG} {tt : TT} {te : TE} (hc : X.calm = true) (hN : X.N.Nodup) (hy : X.N[i]? = some y) (hyl : X.env.scope.names.lookup y = some .local)
    (hsw : swapsWith (.ListComp elt [⟨tg, iter, ifs, 0⟩] scope pos) (some (.Name y py)) spos.line X.env = pure true) (hi : PI X tg iter wi) (ok : BlkOk X.N X.env.scope scope own)
    (hg : ∀ (s : Shared) (H : Hp) (C : Addr) (cl : List (Str × Addr)) (fp : List Addr), PG (X.blk s H scope (compEnvC scope cl C X.env) fp) tg g) (ht : ∀ (s : Shared) (H : Hp) (C : Addr) (cl : List (Str × Addr)) (fp : List Addr), PTs (X.blk s H scope (compEnvC scope cl C X.env) fp) ifs tt)
    (he : ∀ (s : Shared) (H : Hp) (C : Addr) (cl : List (Str × Addr)) (fp : List Addr), PE (X.blk s H scope (compEnvC scope cl C X.env) fp) elt te) (hs : ∀ x, foldedSetIterable iter X.env x = pure x := by intro _; rfl) :
    PS X (.Assign [.Name y py] (.ListComp elt [⟨tg, iter, ifs, 0⟩] scope pos) spos) (tAsg (tLc wi g tt te (own.map (·.2))) (gName i)) := by
  intro pins s σ H D I h
  rw [exec_Assign_Name_used _ _ _ _ hsw]
  refine wpAny_bind (wpAny_standAt (wpAny_bind ?_))
  show wpAny _ X.A (do let _ ← comprehension (.ListComp elt [⟨tg, iter, ifs, 0⟩] scope pos) scope X.env (firstIterPos [⟨tg, iter, ifs, 0⟩] pos) (newList []) false (eval iter X.env) (some (assign (.Name y py) X.env))) _ _ s
  have h : tLc wi g tt te (own.map (·.2)) σ H (fun x H1 => gName i x σ H1 D.nx) := h
  refine wpAny_bind (thn (lc_core (Qf := fun _ s' => SP X pins D .next s') hc hN I hi ok hg ht he hs h fun L C s' m H' I' q hn f => ?_) fun _ s' hq => wpAny_pure (wpAny_pure hq))
  show wpAny _ _ (assign (.Name y py) X.env (.ref L)) _ _ _
  refine wpAny_assign_Name (store_ok2 (v := V.ref L) I' hN hy (.inl hyl) rfl (fun s2 I2 ⟨a, sb, ha⟩ => ?_) (.inr hyl))
  obtain ⟨f0, f1, f2, f3, f4, f5⟩ := f
  have haC : C ≠ a := by
    rcases ha with z | z
    · rw [z]; exact f1
    · exact fun e => f4 y a z e.symm
  refine ⟨m, hn.sameBut sb haC, fun h3 sb3 => ?_⟩
  exact ⟨_, H', I2.turned (t' := s2.toks) (fun b o hb e => (sb3.2 b hb).trans e) f0 f1 f3 f4 f5, q⟩
end
theorem lc_list {K : PySem.W.Frag} {a : Addr} {xs : List V} {g : TG} {tt : TT} {te : TE} {vs : List Nat} {σ : St} {H1 : Hp} {D : Addr} {Qd : Hp → Prop} (Pv : Nat → Hp → Prop) (h0 : Pv 0 (upd H1 D (.lst []))) (hl : ∀ i H, i ≤ xs.length → Pv i H → SqL K H a xs)
    (hs : ∀ i x H, xs[i]? = some x → Pv i H → g x (wipe σ vs) H fun σ2 H2 => wipe σ2 vs = wipe σ vs ∧ tt σ2 H2 fun b H3 =>
      if b = true then te σ2 H3 fun y H4 => ∃ acc, H4 D = some (.lst acc) ∧ acc.length < sizeLine ∧ Pv (i + 1) (upd H4 D (.lst (acc ++ [y]))) else Pv (i + 1) H3) (hd : ∀ H, Pv xs.length H → Qd H) :
    ∃ W : Nat → Nat → Hp → Prop, (∃ m, W 0 m (upd H1 D (.lst []))) ∧ ∀ i m H, W i m H →
      ((Itl K a).stop i H ∧ Qd H) ∨ ((Itl K a).go i H ∧ ∃ Nx : Hp → Prop, (∀ H', Nx H' → ∃ m', m' < m ∧ W (i + 1) m' H') ∧ ∀ x H', (Itl K a).yld i H x H' → g x (wipe σ vs) H' fun σ2 H2 => wipe σ2 vs = wipe σ vs ∧ tt σ2 H2 fun b H3 =>
        if b = true then te σ2 H3 fun y H4 => ∃ acc, H4 D = some (.lst acc) ∧ acc.length < sizeLine ∧ Nx (upd H4 D (.lst (acc ++ [y]))) else Nx H3) := by
  refine ⟨fun i m H => m = xs.length - i ∧ i ≤ xs.length ∧ Pv i H, ⟨xs.length, by simp, Nat.zero_le _, h0⟩, ?_⟩
  rintro i m H ⟨rfl, hi, p⟩
  have q := hl i H hi p
  by_cases hlt : i < xs.length
  · refine .inr ⟨⟨xs, xs[i], q, by simp [hlt]⟩, Pv (i + 1), fun H' p' => ⟨xs.length - (i + 1), by omega, rfl, hlt, p'⟩, fun x H' y => ?_⟩
    obtain ⟨e, y⟩ := y
    subst e
    exact hs i x _ (y xs q) p
  · have e : i = xs.length := by omega
    subst e
    exact .inl ⟨⟨xs, q, Nat.le_refl _⟩, hd H p⟩
def blkC (N : List Str) (sc scope : Scope) (own : List (Str × Nat)) : Bool :=
  (match scope.kind with | .function => true | _ => false) && (scope.names.all fun y => decide (scope.names.lookup y.1 = some y.2)) && (own.all fun p => decide (N[p.2]? = some p.1)) &&
    (scope.names.all fun y => match y.2 with
      | .free => (match sc.names.lookup y.1 with | some .cell => true | some .free => true | _ => false)
      | .local => decide (y.1 ∈ own.map (·.1)) || decide (y.1 ∉ N)
      | .cell => decide (y.1 ∈ own.map (·.1)) || decide (y.1 ∉ N)
      | _ => true)
theorem blkOk_by {N : List Str} {sc scope : Scope} {own : List (Str × Nat)} (h : blkC N sc scope own = true) : BlkOk N sc scope own := by
  unfold blkC at h
  simp only [Bool.and_eq_true, List.all_eq_true, decide_eq_true_eq] at h
  obtain ⟨⟨⟨h1, h2⟩, h3⟩, h4⟩ := h
  refine ⟨?_, h2, h3, fun y hy e => ?_, fun y hy e => ?_⟩
  · split at h1
    · assumption
    · cases h1
  · have q := h4 y hy
    simp only [e] at q
    split at q <;> first | exact .inl (by assumption) | exact .inr (by assumption) | cases q
  · have q := h4 y hy
    rcases e with e | e <;> (simp only [e, Bool.or_eq_true, decide_eq_true_eq] at q; exact q)
end L2
namespace L2
open PySem PySem.Spec PyProof.Rows
section
variable {κ : Type} [DecidableEq κ]
def valV (kvs : List (κ × V)) (k : κ) : Option V := (kvs.find? fun kv => decide (kv.1 = k)).map (·.2)
def putK (kvs : List (κ × V)) (k : κ) (v : V) : List (κ × V) :=
  if (kvs.any fun kv => decide (kv.1 = k)) = true then kvs.map (fun kv => if kv.1 = k then (kv.1, v) else kv) else kvs ++ [(k, v)]
def dropK (kvs : List (κ × V)) (k : κ) : List (κ × V) := kvs.filter fun kv => decide (kv.1 ≠ k)
theorem valV_pos {p : κ × V} {r : List (κ × V)} {k : κ} (e : p.1 = k) : valV (p :: r) k = some p.2 := by simp [valV, List.find?_cons, e]
theorem valV_neg {p : κ × V} {r : List (κ × V)} {k : κ} (e : ¬ p.1 = k) : valV (p :: r) k = valV r k := by simp [valV, List.find?_cons, e]
theorem valV_any (k : κ) : ∀ kvs : List (κ × V), (kvs.any fun kv => decide (kv.1 = k)) = (valV kvs k).isSome
  | [] => rfl
  | p :: r => by
    rw [List.any_cons]
    by_cases e : p.1 = k
    · simp only [valV_pos e, decide_eq_true e, Bool.true_or, Option.isSome_some]
    · rw [valV_neg e, decide_eq_false e, Bool.false_or]; exact valV_any k r
theorem length_putK (kvs : List (κ × V)) (k : κ) (v : V) : (putK kvs k v).length ≤ kvs.length + 1 := by
  unfold putK
  split
  · rw [List.length_map]; omega
  · rw [List.length_append, List.length_cons, List.length_nil]; omega
theorem RelO.isSome_eq {o : Option V} {u : Option Value} (r : RelO o u) : o.isSome = u.isSome := by
  cases o with
  | none => cases u with
    | none => rfl
    | some _ => exact (show False from r).elim
  | some _ => cases u with
    | none => exact (show False from r).elim
    | some _ => rfl
theorem KV.val {kvs : List (κ × V)} {vs : List (κ × Value)} (r : KV kvs vs) (k : κ) : RelO (valV kvs k) (valueAt vs k) := by
  unfold KV at r
  induction r with
  | nil => exact True.intro
  | @cons p q ps qs h t ih =>
    obtain ⟨h1, h2⟩ := h
    by_cases e : p.1 = k
    · have e' : q.1 = k := h1.symm.trans e
      have b : valueAt (q :: qs) k = some q.2 := by simp [valueAt, List.find?_cons, e']
      rw [valV_pos e, b]; exact h2
    · have e' : ¬ q.1 = k := fun z => e (h1.trans z)
      have b : valueAt (q :: qs) k = valueAt qs k := by simp [valueAt, List.find?_cons, e']
      rw [valV_neg e, b]; exact ih
theorem KV.any {kvs : List (κ × V)} {vs : List (κ × Value)} (r : KV kvs vs) (k : κ) : (kvs.any fun kv => decide (kv.1 = k)) = vs.any fun kv => decide (kv.1 = k) := by
  unfold KV at r
  induction r with
  | nil => rfl
  | cons h t ih => rw [List.any_cons, List.any_cons, ih, h.1]
theorem KV.repl {kvs : List (κ × V)} {vs : List (κ × Value)} (r : KV kvs vs) (k : κ) {y : V} {u : Value} (ry : RelV y u) :
    KV (kvs.map fun kv => if kv.1 = k then (kv.1, y) else kv) (vs.map fun kv => if kv.1 = k then (kv.1, u) else kv) := by
  unfold KV at r ⊢
  induction r with
  | nil => exact .nil
  | @cons p q ps qs h t ih =>
    rw [List.map_cons, List.map_cons]
    refine .cons ?_ ih
    obtain ⟨h1, h2⟩ := h
    by_cases e : p.1 = k
    · rw [if_pos e, if_pos (h1.symm.trans e)]; exact ⟨h1, ry⟩
    · rw [if_neg e, if_neg (fun z => e (h1.trans z))]; exact ⟨h1, h2⟩
theorem KV.put {kvs : List (κ × V)} {vs : List (κ × Value)} (r : KV kvs vs) (k : κ) {y : V} {u : Value} (ry : RelV y u) : KV (putK kvs k y) (stored vs k u) := by
  unfold putK stored
  rw [r.any k]
  by_cases e : (vs.any fun kv => decide (kv.1 = k)) = true
  · rw [if_pos e, if_pos e]; exact r.repl k ry
  · rw [if_neg e, if_neg e]; exact Paired.snoc r ⟨rfl, ry⟩
theorem KV.drop {kvs : List (κ × V)} {vs : List (κ × Value)} (r : KV kvs vs) (k : κ) : KV (dropK kvs k) (without vs k) := by
  unfold KV at r ⊢
  unfold dropK without
  induction r with
  | nil => exact .nil
  | @cons p q ps qs h t ih =>
    obtain ⟨h1, h2⟩ := h
    rw [List.filter_cons, List.filter_cons]
    by_cases e : p.1 = k
    · have a : ¬ decide (p.1 ≠ k) = true := by simp [e]
      have b : ¬ decide (q.1 ≠ k) = true := by simp [h1.symm.trans e]
      rw [if_neg a, if_neg b]; exact ih
    · have e' : ¬ q.1 = k := fun z => e (h1.trans z)
      have a : decide (p.1 ≠ k) = true := by simp [e]
      have b : decide (q.1 ≠ k) = true := by simp [e']
      rw [if_pos a, if_pos b]; exact .cons ⟨h1, h2⟩ ih
theorem KV.length {kvs : List (κ × V)} {vs : List (κ × Value)} (r : KV kvs vs) : kvs.length = vs.length := Paired.length r
theorem dropK_le (kvs : List (κ × V)) (k : κ) : (dropK kvs k).length ≤ kvs.length := List.length_filter_le _ _
end
theorem kV_is {P : Program} {w : World} {k : Key} {u : Value} (r : RelV (kV k) u) : (mixKind P w).is k u = true := by
  cases k with
  | inl i => obtain ⟨t, e⟩ := (show ∃ t, u = Value.int i t from r); subst e; exact mixKind_int P w i t
  | inr x => obtain ⟨t, e⟩ := (show ∃ t, u = Value.str x t from r); subst e; exact mixKind_str P w x t
theorem items_are {P : Program} {w : World} : ∀ {ks : List Key} {us : List Value}, Vals (ks.map kV) us → ItemsAre (mixKind P w) ks us
  | [], _, r => by rw [List.map_nil] at r; cases r; exact .nil
  | k :: ks, _, r => by
    rw [List.map_cons] at r
    cases r with
    | cons h t => exact .cons (kV_is h) (items_are t)
abbrev KT (H : Hp) : List (List Key × V) → List (List Key × Addr × Value) → Prop := Paired fun p q => p.1 = q.1 ∧ H q.2.1 = some (.tup (p.1.map kV)) ∧ RelV p.2 q.2.2
theorem KT.val {H : Hp} {kvs : List (List Key × V)} {xs : List (List Key × Addr × Value)} (r : KT H kvs xs) (k : List Key) : RelO (valV kvs k) ((atKey xs k).map (·.2)) := by
  induction r with
  | nil => exact True.intro
  | @cons p q ps qs h t ih =>
    obtain ⟨h1, _, h2⟩ := h
    by_cases e : p.1 = k
    · have e' : q.1 = k := h1.symm.trans e
      have b : atKey (q :: qs) k = some q.2 := by simp [atKey, List.find?_cons, e']
      rw [valV_pos e, b]; exact h2
    · have e' : ¬ q.1 = k := fun z => e (h1.trans z)
      have b : atKey (q :: qs) k = atKey qs k := by simp [atKey, List.find?_cons, e']
      rw [valV_neg e, b]; exact ih
theorem KT.repl {H : Hp} {kvs : List (List Key × V)} {xs : List (List Key × Addr × Value)} (r : KT H kvs xs) (k : List Key) {y : V} {u : Value} (ry : RelV y u) :
    KT H (kvs.map fun kv => if kv.1 = k then (kv.1, y) else kv) (xs.map (putAt k u)) := by
  induction r with
  | nil => exact .nil
  | @cons p q ps qs h t ih =>
    rw [List.map_cons, List.map_cons]
    refine .cons ?_ ih
    obtain ⟨h1, h2, h3⟩ := h
    unfold putAt
    by_cases e : p.1 = k
    · rw [if_pos e, if_pos (h1.symm.trans e)]; exact ⟨h1, h2, ry⟩
    · rw [if_neg e, if_neg (fun z => e (h1.trans z))]; exact ⟨h1, h2, h3⟩
theorem KT.put {H : Hp} {kvs : List (List Key × V)} {xs : List (List Key × Addr × Value)} (r : KT H kvs xs) (k : List Key) {b : Addr} {y : V} {u : Value} (hb : H b = some (.tup (k.map kV))) (ry : RelV y u) :
    KT H (putK kvs k y) (storedH xs k b u) := by
  have e : (kvs.any fun kv => decide (kv.1 = k)) = (atKey xs k).isSome := by
    rw [valV_any, (r.val k).isSome_eq, Option.isSome_map]
  unfold putK storedH
  rw [e]
  by_cases q : (atKey xs k).isSome = true
  · rw [if_pos q, if_pos q]; exact r.repl k ry
  · rw [if_neg q, if_neg q]; exact Paired.snoc r ⟨rfl, hb, ry⟩
theorem KT.keeps {H H' : Hp} {kvs : List (List Key × V)} {xs : List (List Key × Addr × Value)} (r : KT H kvs xs) (ht : ∀ b ys, H b = some (.tup ys) → H' b = some (.tup ys)) : KT H' kvs xs :=
  Paired.mapP r fun _ _ z => ⟨z.1, ht _ _ z.2.1, z.2.2⟩
section
variable {P : Program} {w : World} {H : Hp} {h : Heap} {a : Addr}
theorem rd_of {u : HO} (ok : HOk P w H h) (e : Rd H a u) : ObjOk P w H h a u := e.ok ok
theorem dk_rd {kvs : List (Key × V)} (ok : HOk P w H h) (e : Rd H a (.dK kvs)) : kvs.length ≤ sizeLine ∧ (a == sysModules) = false ∧ ∃ vs, KV kvs vs ∧ h.DictOf (mixKind P w) a vs :=
  show ObjOk P w H h a (.dK kvs) from rd_of ok e
theorem dk_of {kvs : List (Key × V)} (ok : HOk P w H h) (e : H a = some (.dK kvs)) : kvs.length ≤ sizeLine ∧ (a == sysModules) = false ∧ ∃ vs, KV kvs vs ∧ h.DictOf (mixKind P w) a vs := dk_rd ok (.inl e)
theorem key_of {ks : List Key} (ok : HOk P w H h) (e : H a = some (.tup (ks.map kV))) : (tupleKind (mixKind P w)).is h ks a := by
  obtain ⟨_, its, r, o, h1, h2, n, h3⟩ := (show ObjOk P w H h a (.tup (ks.map kV)) from ok a _ e)
  exact ⟨o, its.toArray, n, h1, h2, h3, by simpa using items_are r⟩
theorem dt_rd {kvs : List (List Key × V)} (ok : HOk P w H h) (e : Rd H a (.dT kvs)) : kvs.length ≤ sizeLine ∧ (a == sysModules) = false ∧
    ∃ xs, KT H kvs xs ∧ h.DictOfH (tupleKind (mixKind P w)) a xs := by
  obtain ⟨z, y, xs, r, o, es, ep, h1, h2, h3, h4, h5⟩ := (show ObjOk P w H h a (.dT kvs) from rd_of ok e)
  refine ⟨z, y, xs, r, o, es, ep, h1, h2, h3, h4, fun x hx => ?_, h5⟩
  have all : ∀ {l : List (List Key × V)} {m : List (List Key × Addr × Value)}, KT H l m → ∀ x ∈ m, (tupleKind (mixKind P w)).is h x.1 x.2.1 := by
    intro l m q
    induction q with
    | nil => intro x hx; exact nomatch hx
    | @cons p q ps qs hq t ih =>
      intro x hx
      rcases List.mem_cons.mp hx with e | hx
      · subst e
        exact key_of ok (by rw [← hq.1]; exact hq.2.1)
      · exact ih x hx
  exact all r x hx
theorem dt_of {kvs : List (List Key × V)} (ok : HOk P w H h) (e : H a = some (.dT kvs)) : kvs.length ≤ sizeLine ∧ (a == sysModules) = false ∧
    ∃ xs, KT H kvs xs ∧ h.DictOfH (tupleKind (mixKind P w)) a xs := dt_rd ok (.inl e)
end
def DGet (H : Hp) (a : Addr) (y : V) (r : Option V) : Prop :=
  (∃ kvs k, Rd H a (.dK kvs) ∧ y = kV k ∧ r = valV kvs k) ∨ ∃ kvs k b, Rd H a (.dT kvs) ∧ y = .ref b ∧ H b = some (.tup (k.map kV)) ∧ r = valV kvs k
def DPut (H : Hp) (a : Addr) (y v : V) (H' : Hp) : Prop :=
  (∃ kvs k, H a = some (.dK kvs) ∧ y = kV k ∧ kvs.length < sizeLine ∧ H' = upd H a (.dK (putK kvs k v))) ∨
  ∃ kvs k b, H a = some (.dT kvs) ∧ y = .ref b ∧ H b = some (.tup (k.map kV)) ∧ kvs.length < sizeLine ∧ H' = upd H a (.dT (putK kvs k v))
theorem DGet.k {H : Hp} {a : Addr} {kvs : List (Key × V)} {k : Key} (e : H a = some (.dK kvs)) : DGet H a (kV k) (valV kvs k) := .inl ⟨kvs, k, .inl e, rfl, rfl⟩
theorem DPut.k {H : Hp} {a : Addr} {kvs : List (Key × V)} {k : Key} {v : V} (e : H a = some (.dK kvs)) (hl : kvs.length < sizeLine) : DPut H a (kV k) v (upd H a (.dK (putK kvs k v))) := .inl ⟨kvs, k, e, rfl, hl, rfl⟩
section
variable {X : Cx} {pins : List (Addr × Obj)} {σ : St} {H : Hp} {s : Shared} {a : Addr} {y v : V} {u r : Value} {o : Option V} {A : Around} {E : Value → Shared → Prop}
theorem Inv.big (I : Inv X pins σ H s) : sysModules < s.heap.objs.size := by
  have h : mainGlobals < s.heap.objs.size := (I.mod.glob.keeps I.bk).lt
  exact Nat.lt_trans (by decide) h
theorem d_getItem {Q : Value → Shared → Prop} (hu : A.units + 1 < cLine) (I : Inv X pins σ H s) (g : DGet H a y (some v)) (ry : RelV y u) (h : ∀ w' s', Inv X pins σ H s' → RelV v w' → Q w' s') :
    wpAny (model X.prog X.w) A (getItem (.ref a) u) Q E s := by
  rcases g with ⟨kvs, k, e, ey, l⟩ | ⟨kvs, k, b, e, ey, eb, l⟩
  · subst ey
    obtain ⟨z, hd, vs, rel, dd⟩ := dk_rd I.hok e
    obtain ⟨w', hw, rw'⟩ := RelO.some_of (v := v) (o := valueAt vs k) (by rw [l]; exact rel.val k)
    exact wpAny_getItem_of (kV_is ry) dd.mapOf hw (h w' _ (I.tok _) rw')
  · subst ey
    cases (show u = Value.ref b from ry)
    obtain ⟨z, hd, xs, rel, dd⟩ := dt_rd I.hok e
    obtain ⟨w', hw, rw'⟩ := RelO.some_of (v := v) (o := (atKey xs k).map (·.2)) (by rw [l]; exact rel.val k)
    obtain ⟨p, hp, hp2⟩ := Option.map_eq_some_iff.mp hw
    refine wpAny_getItem_heap (tupleKind_room_in1 hu) (key_of I.hok eb) dd hp ?_
    rw [hp2]
    exact h w' _ (I.tok _) rw'
theorem d_in {Q : Value → Shared → Prop} (hu : A.units + 1 < cLine) (I : Inv X pins σ H s) (g : DGet H a y o) (ry : RelV y u) (h : ∀ s', Inv X pins σ H s' → Q (.bool o.isSome) s') :
    wpAny (model X.prog X.w) A (compareOp .In u (.ref a)) Q E s := by
  rcases g with ⟨kvs, k, e, ey, l⟩ | ⟨kvs, k, b, e, ey, eb, l⟩
  · subst ey
    obtain ⟨z, hd, vs, rel, dd⟩ := dk_rd I.hok e
    refine wpAny_in_of (kV_is ry) hd dd.mapOf ?_
    rw [← (rel.val k).isSome_eq, ← l]
    exact h _ (I.tok _)
  · subst ey
    cases (show u = Value.ref b from ry)
    obtain ⟨z, hd, xs, rel, dd⟩ := dt_rd I.hok e
    refine wpAny_in_heap (tupleKind_room_in1 hu) (key_of I.hok eb) hd dd ?_
    have q := (rel.val k).isSome_eq
    rw [Option.isSome_map] at q
    rw [← q, ← l]
    exact h _ (I.tok _)
theorem d_notIn {Q : Value → Shared → Prop} (hu : A.units + 1 < cLine) (I : Inv X pins σ H s) (g : DGet H a y o) (ry : RelV y u) (h : ∀ s', Inv X pins σ H s' → Q (.bool (!o.isSome)) s') :
    wpAny (model X.prog X.w) A (compareOp .NotIn u (.ref a)) Q E s := by
  rcases g with ⟨kvs, k, e, ey, l⟩ | ⟨kvs, k, b, e, ey, eb, l⟩
  · subst ey
    obtain ⟨z, hd, vs, rel, dd⟩ := dk_rd I.hok e
    refine wpAny_notIn_of (kV_is ry) hd dd.mapOf ?_
    rw [← (rel.val k).isSome_eq, ← l]
    exact h _ (I.tok _)
  · subst ey
    cases (show u = Value.ref b from ry)
    obtain ⟨z, hd, xs, rel, dd⟩ := dt_rd I.hok e
    refine wpAny_notIn_heap (tupleKind_room_in1 hu) (key_of I.hok eb) hd dd ?_
    have q := (rel.val k).isSome_eq
    rw [Option.isSome_map] at q
    rw [← q, ← l]
    exact h _ (I.tok _)
theorem d_write {h' : Heap} {t' : Nat} {ob : HO} (I : Inv X pins σ H s) (mu : Mut (H a)) (hs : Heap.SameBut a s.heap h') (he : ∃ q, h'.get? a = some q) (new : ObjOk X.prog X.w (upd H a ob) h' a ob) :
    Inv X pins σ (upd H a ob) { s with heap := h', toks := t' } :=
  I.write (x := a) (e := a) mu (.inl rfl) (fun b q hb z => (hs.2 b hb).trans z) he new
theorem dk_new {P : Program} {w : World} {H' : Hp} {h' : Heap} {kvs : List (Key × V)} {vs : List (Key × Value)} (z : kvs.length ≤ sizeLine) (hd : (a == sysModules) = false) (rel : KV kvs vs) (dd : h'.DictOf (mixKind P w) a vs) :
    ObjOk P w H' h' a (.dK kvs) := ⟨z, hd, vs, rel, dd⟩
theorem d_setItem {H' : Hp} {Q : Unit → Shared → Prop} (hu : A.units + 1 < cLine) (I : Inv X pins σ H s) (g : DPut H a y v H') (ry : RelV y u) (rv : RelV v r) (h : ∀ s', Inv X pins σ H' s' → Q () s') :
    wpAny (model X.prog X.w) A (setItem (.ref a) u r) Q E s := by
  rcases g with ⟨kvs, k, e, ey, l, eH⟩ | ⟨kvs, k, b, e, ey, eb, l, eH⟩
  · subst ey eH
    obtain ⟨z, hd, vs, rel, dd⟩ := dk_of I.hok e
    have hz : vs.length ≤ sizeLine := by rw [← rel.length]; exact z
    have hl : (putK kvs k v).length ≤ sizeLine := by have := length_putK kvs k v; omega
    refine wpAny_setItem_pairs (hsz := hz) (kV_is ry) dd fun h' dd' hs => h _ ?_
    have he : ∃ q, h'.get? a = some q := let ⟨q, _, _, hq, _⟩ := dd'; ⟨q, hq⟩
    exact d_write I (by rw [e]; exact True.intro) hs he (dk_new hl hd (rel.put k rv) dd')
  · subst ey eH
    cases (show u = Value.ref b from ry)
    obtain ⟨z, hd, xs, rel, dd⟩ := dt_of I.hok e
    have hz : xs.length ≤ sizeLine := by rw [← Paired.length rel]; exact z
    have hl : (putK kvs k v).length ≤ sizeLine := by have := length_putK kvs k v; omega
    refine wpAny_setItem_heap (hsz := hz) (tupleKind_room_in1 hu) (key_of I.hok eb) dd fun h' dd' hs => h _ ?_
    obtain ⟨q, es, ep, hq, h2, h3, h4, _, h5⟩ := dd'
    refine d_write I (by rw [e]; exact True.intro) hs ⟨q, hq⟩ ⟨hl, hd, _, (rel.put k eb rv).keeps fun c ys ec => ?_, q, es, ep, hq, h2, h3, h4, h5⟩
    rw [upd_ne (ne_of ec e (fun z => nomatch z))]
    exact ec
end
section
variable {X : Cx} {pins : List (Addr × Obj)} {σ : St} {H : Hp} {s : Shared} {a : Addr} {kvs : List (Key × V)} {k : Key} {u : Value} {A : Around} {E : Value → Shared → Prop}
theorem d_pop {v : V} {more : List Value} {Q : Value → Shared → Prop} (I : Inv X pins σ H s) (e : H a = some (.dK kvs)) (ry : RelV (kV k) u) (l : valV kvs k = some v) (hm : more = [] ∨ ∃ x, more = [x])
    (h : ∀ w' s', Inv X pins σ (upd H a (.dK (dropK kvs k))) s' → RelV v w' → Q w' s') : wpAny (model X.prog X.w) A (call (.builtin "dict.pop") (.ref a :: u :: more)) Q E s := by
  obtain ⟨z, hd, vs, rel, dd⟩ := dk_of I.hok e
  obtain ⟨w', hw, rw'⟩ := RelO.some_of (v := v) (o := valueAt vs k) (by rw [← l]; exact rel.val k)
  have hp : (keyPart u).isSome = true := by
    cases k with
    | inl i => obtain ⟨t, q⟩ := (show ∃ t, u = Value.int i t from ry); subst q; rfl
    | inr x => obtain ⟨t, q⟩ := (show ∃ t, u = Value.str x t from ry); subst q; rfl
  have ha : argsOk "dict.pop" ⟨.ref a :: u :: more, []⟩ := by
    rcases hm with q | ⟨x, q⟩
    · subst q; exact PySem.F.args_dict_pop_2 _ _
    · subst q; exact PySem.F.args_dict_pop_3 _ _ _
  refine call_meetsIn PySem.F.slot_dict_pop dd.typeIs PySem.F.entry_dict_pop ha (meets_dict_pop_there (mixKind X.prog X.w) a (kV_is ry) more hm hp)
    ⟨vs, w', dd, by rw [← rel.length]; exact z, hw, fun h' dd' hs => h w' _ ?_ rw'⟩
  have he : ∃ q, h'.get? a = some q := let ⟨q, _, _, hq, _⟩ := dd'; ⟨q, hq⟩
  exact d_write I (by rw [e]; exact True.intro) hs he (dk_new (Nat.le_trans (dropK_le kvs k) z) hd (rel.drop k) dd')
theorem d_len {Q : Value → Shared → Prop} (I : Inv X pins σ H s) (e : Rd H a (.dK kvs)) (h : ∀ t s', Inv X pins σ H s' → Q (.int kvs.length t) s') : wpAny (model X.prog X.w) A (call (.builtin "len") [.ref a]) Q E s := by
  obtain ⟨z, hd, vs, rel, dd⟩ := dk_rd I.hok e
  refine call_len_dict hd dd (by rw [← rel.length]; rw [sizeLine_eq] at z; omega) ?_
  rw [← rel.length]
  exact h _ _ (I.tok _)
end
def NoSl (i : Expr) : Prop := ∀ ov iv, subscripted i false ov iv = operate [ov, iv] (getItem ov iv)
theorem subD_of {prog : Program} {w : World} {A : Around} {E : Value → Shared → Prop} {s : Shared} {env : Env} {value slice : Expr} {pos : Pos} {T id : String} {Q : Value → Shared → Prop}
    (hl : typeLookup (.type T) "__getitem__" = pure (some (.builtin id))) (hs : NoSl slice)
    (h : wpAny (model prog w) A (eval value env) (fun o s₁ => wpAny (model prog w) A (eval slice env) (fun i s₂ => s₂.TypeIs o T ∧ wpAny (model prog w) A (getItem o i) Q E s₂) E s₁) E s) :
    wpAny (model prog w) A (eval (.Subscript value slice pos) env) Q E s := by
  refine Subscript_ (wpAny_mono h (fun o s₁ h₁ => wpAny_mono h₁ (fun i s₂ h₂ => ?_) fun _ _ x => x) fun _ _ x => x)
  obtain ⟨hT, h₂⟩ := h₂
  unfold subscriptTail
  refine wpAny_bind ?_
  rw [getitemInPython_of_ne hT.not_modules]
  refine wpAny_bind (wpAny_specialOf hT hl ?_)
  have fin : wpAny (model prog w) A (subscripted slice false o i) (fun r s₃ => wpAny (model prog w) A (letTemporaryGo value o r >>= fun _ => pure r) Q E s₃) E s₂ := by
    rw [hs o i]
    exact wpAny_operating (wpAny_mono h₂ (fun r s₃ h₃ => wpAny_bind (wpAny_letTemporaryGo (wpAny_pure h₃))) fun _ _ x => x)
  first
    | exact wpAny_pure (wpAny_bind fin)
    | exact wpAny_bind (wpAny_pure (wpAny_bind fin))
    | exact wpAny_bind fin
theorem dict_typeIs {X : Cx} {pins : List (Addr × Obj)} {σ : St} {H : Hp} {s : Shared} {a : Addr} {y : V} {o : Option V} (I : Inv X pins σ H s) (g : DGet H a y o) : s.TypeIs (.ref a) "dict" := by
  rcases g with ⟨kvs, k, e, _, _⟩ | ⟨kvs, k, b, e, _, _, _⟩
  · obtain ⟨_, _, vs, _, dd⟩ := dk_rd I.hok e
    exact dd.typeIs
  · obtain ⟨_, _, xs, _, dd⟩ := dt_rd I.hok e
    exact dd.typeIs
def tDGet (td ty : TE) : TE := fun σ H Q => td σ H fun x H1 => ty σ H1 fun y H2 => ∃ a v, x = .ref a ∧ DGet H2 a y (some v) ∧ Q v H2
def tDIn (ty td : TE) : TE := fun σ H Q => ty σ H fun y H1 => td σ H1 fun x H2 => ∃ a o, x = .ref a ∧ DGet H2 a y o ∧ Q (.bl o.isSome) H2
def tDNotIn (ty td : TE) : TE := fun σ H Q => ty σ H fun y H1 => td σ H1 fun x H2 => ∃ a o, x = .ref a ∧ DGet H2 a y o ∧ Q (.bl (!o.isSome)) H2
def sDPut (td ty tv : TE) : TS := fun D σ H => tv σ H fun v H1 => td σ H1 fun x H2 => ty σ H2 fun y H3 => ∃ a H4, x = .ref a ∧ DPut H3 a y v H4 ∧ D.nx σ H4
section
variable {X : Cx} {o i e value : Expr} {pos pos' tpos : Pos} {td ty tv : TE}
theorem pe_dget (hu : X.A.units + 1 < cLine) (ho : PE X o td) (hi : PE X i ty) (hs : NoSl i) : PE X (.Subscript o i pos) (tDGet td ty) := by
  intro pins s σ H Q I h
  refine subD_of PySem.F.slot_dict_getitem.lookup hs (thn (ho pins s σ H _ I h) fun u s1 ⟨x, H1, I1, rx, q1⟩ => thn (hi pins s1 σ H1 _ I1 q1) fun iv s2 ⟨y, H2, I2, ry, a, v, ex, g, q2⟩ => ?_)
  subst ex
  obtain rfl : u = Value.ref a := rx
  exact ⟨dict_typeIs I2 g, d_getItem hu I2 g ry fun w' s3 I3 rw' => ⟨v, H2, I3, rw', q2⟩⟩
theorem pc_din (hu : X.A.units + 1 < cLine) (hi : PE X i ty) (ho : PE X o td) : PC X .In i o (tDIn ty td) := by
  intro pins s σ H Q I h
  refine thn (hi pins s σ H _ I h) fun iv s1 ⟨y, H1, I1, ry, q1⟩ => thn (ho pins s1 σ H1 _ I1 q1) fun u s2 ⟨x, H2, I2, rx, a, ov, ex, g, q2⟩ => ?_
  subst ex
  obtain rfl : u = Value.ref a := rx
  exact d_in hu I2 g ry fun s3 I3 => ⟨.bl ov.isSome, H2, I3, rfl, q2⟩
theorem pc_dnotin (hu : X.A.units + 1 < cLine) (hi : PE X i ty) (ho : PE X o td) : PC X .NotIn i o (tDNotIn ty td) := by
  intro pins s σ H Q I h
  refine thn (hi pins s σ H _ I h) fun iv s1 ⟨y, H1, I1, ry, q1⟩ => thn (ho pins s1 σ H1 _ I1 q1) fun u s2 ⟨x, H2, I2, rx, a, ov, ex, g, q2⟩ => ?_
  subst ex
  obtain rfl : u = Value.ref a := rx
  exact d_notIn hu I2 g ry fun s3 I3 => ⟨.bl (!ov.isSome), H2, I3, rfl, q2⟩
theorem ps_dput (hu : X.A.units + 1 < cLine) (ho : PE X o td) (hi : PE X i ty) (hv : PE X value tv) (hs : swapsWith value (some (.Subscript o i pos')) pos.line X.env = pure false) :
    PS X (.Assign [.Subscript o i pos'] value pos) (sDPut td ty tv) := by
  intro pins s σ H D I h
  refine wpAny_Assign_Subscript (thn (hv pins s σ H _ I h) fun r s1 ⟨v, H1, I1, rv, q1⟩ => thn (ho pins s1 σ H1 _ I1 q1) fun u s2 ⟨x, H2, I2, rx, q2⟩ => thn (hi pins s2 σ H2 _ I2 q2) fun iv s3 ⟨y, H3, I3, ry, a, H4, ex, g, q3⟩ => ?_) hs
  subst ex
  obtain rfl : u = Value.ref a := rx
  exact d_setItem hu I3 g ry rv fun s4 I4 => ⟨σ, H4, I4, q3⟩
end
theorem dk_empty {P : Program} {w : World} {H : Hp} (h : Heap) (hb : sysModules < h.objs.size) : ObjOk P w H (h.push { cls := .type "dict", data := .dict #[] }) h.objs.size (.dK []) :=
  ⟨Nat.zero_le _, beq_eq_false_iff_ne.mpr (Ne.symm (Nat.ne_of_lt hb)), [], .nil, Heap.DictOf.new h⟩
def tDNewK : TE := fun _ H Q => ∀ p, H p = none → Q (.ref p) (upd H p (.dK []))
section
variable {X : Cx} {pos : Pos}
theorem pe_dnewK : PE X (.Dict [] [] pos) tDNewK := fun pins s σ H Q I h =>
  wpAny_Dict_empty ⟨.ref s.heap.objs.size, _, I.laid (a := s.heap.objs.size) (o := .dK []) (t' := s.toks) (fun _ _ q => Heap.get?_push_of_some _ q) (Nat.le_refl _) (dk_empty s.heap I.big), rfl, h _ (I.hok.fresh (Nat.le_refl _))⟩
end
structure M1 (X : Cx) (o : Expr) (m : Str) (apos : Pos) (e : Expr) (cpos : Pos) : Prop where
  base : attributeBase o m X.env (eval o X.env) = eval o X.env
  few : ((backTo cpos (starEach [e] X.env)).all (fun x => !x.1) && (backToKw cpos (keywordEach [] X.env)).all (fun x => x.1.isSome)
    && decide (([e] : List Expr).length + ([] : List Keyword).length + (if ([] : List Keyword).isEmpty then 0 else 1) < 30)) = true
  line : (apos.endLine == cpos.line) = true
  trees : backTo cpos (starEach [e] X.env) = [(false, eval e X.env)]
def IsD (H : Hp) (a : Addr) : Prop := (∃ kvs, Rd H a (.dK kvs)) ∨ ∃ kvs, Rd H a (.dT kvs)
theorem isD_at {X : Cx} {pins : List (Addr × Obj)} {σ : St} {H : Hp} {s : Shared} {a : Addr} (I : Inv X pins σ H s) (d : IsD H a) :
    s.TypeIs (.ref a) "dict" ∧ (∀ b, Value.ref a = .ref b → ∃ ob, s.heap.get? b = some ob ∧ ob.dict = none) ∧ (a == sysModules) = false := by
  rcases d with ⟨kvs, e⟩ | ⟨kvs, e⟩
  · obtain ⟨_, hd, vs, _, dd⟩ := dk_rd I.hok e
    refine ⟨dd.typeIs, fun b q => ?_, hd⟩
    cases q
    obtain ⟨ob, _, _, h1, h2, _⟩ := dd
    exact ⟨ob, h1, h2.2.1⟩
  · obtain ⟨_, hd, xs, _, dd⟩ := dt_rd I.hok e
    refine ⟨dd.typeIs, fun b q => ?_, hd⟩
    cases q
    obtain ⟨ob, _, _, h1, h2, _⟩ := dd
    exact ⟨ob, h1, h2.2.1⟩
def tDPop1 (td ty : TE) : TE := fun σ H Q => td σ H fun x H1 => ∃ a, x = .ref a ∧ IsD H1 a ∧ ty σ H1 fun y H2 => ∃ kvs k v, H2 a = some (.dK kvs) ∧ y = kV k ∧ valV kvs k = some v ∧ Q v (upd H2 a (.dK (dropK kvs k)))
section
variable {X : Cx} {o e f : Expr} {apos cpos : Pos} {td ty tx : TE}
theorem pe_dpop1 (ho : PE X o td) (he : PE X e ty) (m : M1 X o "pop" apos e cpos) : PE X (.Call (.Attribute o "pop" apos) [e] [] cpos) (tDPop1 td ty) := by
  intro pins s σ H Q I h
  refine wpAny_Call_method m.base m.few m.line PySem.F.plainAttrs_dict PySem.F.slot_dict_pop PySem.F.type_dict_pop (thn (ho pins s σ H _ I h) fun u s1 ⟨x, H1, I1, rx, a, ex, d, q1⟩ => ?_)
  subst ex
  obtain rfl : u = Value.ref a := rx
  obtain ⟨t1, t2, _⟩ := isD_at I1 d
  refine ⟨t1, t2, ?_⟩
  rw [m.trees]
  refine Calls.callWith_builtin rfl (Calls.evalArgs_plain (Calls.spliced_cons (thn (he pins s1 σ H1 _ I1 q1) fun iv s2 ⟨y, H2, I2, ry, kvs, k, v, ea, ey, l, q2⟩ => Calls.spliced_nil ?_)))
  subst ey
  exact d_pop I2 ea ry l (.inl rfl) fun w' s3 I3 rw' => ⟨v, _, I3, rw', q2⟩
end
end L2
namespace L2
open PySem PySem.Spec PyProof.Rows
section
variable {X : Cx} {pins : List (Addr × Obj)} {σ : St} {H : Hp} {s : Shared} {h' : Heap}
theorem Inv.lock {d : Addr} {u : HO} (I : Inv X pins σ H s) (h : H d = some u) (mu : Mut (some u)) : ∃ od, Inv X pins σ (upd H d (.frz od u)) s := by
  have x := I.hok d u h
  have ex : ∃ od, s.heap.get? d = some od := by
    cases u with
    | lst xs => obtain ⟨_, _, _, _, e⟩ := x; exact ⟨_, e⟩
    | dK kvs => obtain ⟨_, _, _, _, o, _, _, e, _⟩ := x; exact ⟨o, e⟩
    | dT kvs => obtain ⟨_, _, _, _, o, _, _, e, _⟩ := x; exact ⟨o, e⟩
    | set S n => obtain ⟨o, _, _, _, e, _⟩ := x; exact ⟨o, e⟩
    | ins C dx fs => obtain ⟨_, _, _, e, _⟩ := x; exact ⟨_, e⟩
    | ext φ => obtain ⟨_, ⟨_, e⟩, _⟩ := x; exact ⟨_, e⟩
    | _ => exact False.elim mu
  obtain ⟨od, e⟩ := ex
  have new : ObjOk X.prog X.w (upd H d (.frz od u)) s.heap d (.frz od u) := by
    refine ⟨e, x.stay (fun b v _ q => q) (fun b q => ?_) fun b xs q => ?_⟩
    · rw [upd_ne (fun z => by rw [z, h] at q; cases q; exact mu)]; exact q
    · rw [upd_ne (fun z => by rw [z, h] at q; cases q; exact mu)]; exact q
  exact ⟨od, I.write (x := d) (e := d) (t' := s.toks) (h' := s.heap) (by rw [h]; exact mu) (.inl rfl) (fun b v _ q => q) ⟨od, e⟩ new⟩
theorem Inv.nofrz {d : Addr} {u : HO} (I : Inv X pins σ H s) (h : H d = some u) (mu : Mut (some u)) : ∀ o' u', X.H₀ d ≠ some (.frz o' u') := fun o' u' e => by
  have q := I.base.frzs d o' u' e
  rw [h] at q
  cases q
  exact mu
theorem Inv.unlock {d : Addr} {od : Obj} {u : HO} (I : Inv X pins σ H s) (h : H d = some (.frz od u)) (hn : ∀ o' u', X.H₀ d ≠ some (.frz o' u')) : Inv X pins σ (upd H d u) s := by
  have neH : ∀ b o, H b = some o → (∀ o' u', o ≠ .frz o' u') → b ≠ d := fun b o e hne z => by
    rw [z, h] at e
    cases e
    exact hne _ _ rfl
  have neN : ∀ b, H b = none → b ≠ d := fun b e z => by rw [z, h] at e; cases e
  refine ⟨I.ok, I.os, I.bare, ⟨I.base.keep, I.base.slot, fun b o e n hx => ?_, I.base.there, fun b xs e => ?_, fun b o x e => ?_, fun b ps e => ?_⟩, I.loc, I.cell, ?_, fun x c e => ?_, fun p hp => ?_, fun b o e => ?_, I.len⟩
  · rw [upd_ne (neN b (I.base.free b o e n hx))]; exact I.base.free b o e n hx
  · have q := I.base.tups b xs e
    rw [upd_ne (neH b _ q (fun _ _ z => nomatch z))]; exact q
  · have q := I.base.frzs b o x e
    rw [upd_ne (fun z => by rw [z] at e; exact hn _ _ e)]; exact q
  · obtain ⟨m, q⟩ := I.base.tbls b ps e
    exact ⟨m, by rw [upd_ne (neH b _ q (fun _ _ z => nomatch z))]; exact q⟩
  · rw [upd_ne (neN _ I.free)]; exact I.free
  · rw [upd_ne (neN c (I.freeC x c e))]; exact I.freeC x c e
  · obtain ⟨e, n, r⟩ := I.pin p hp
    exact ⟨e, by rw [upd_ne (neN _ n)]; exact n, r⟩
  · by_cases hb : b = d
    · rw [hb, upd_same] at e
      cases e
      rw [hb]
      obtain ⟨_, x⟩ := I.hok d _ h
      exact x.stay (fun c v _ q => q) (fun c q => by rw [upd_ne (neH c _ q (fun _ _ z => nomatch z))]; exact q) fun c xs q => by rw [upd_ne (neH c _ q (fun _ _ z => nomatch z))]; exact q
    · rw [upd_ne hb] at e
      exact (I.hok b o e).stay (fun c v _ q => q) (fun c q => by rw [upd_ne (neH c _ q (fun _ _ z => nomatch z))]; exact q) fun c xs q => by rw [upd_ne (neH c _ q (fun _ _ z => nomatch z))]; exact q
end
def tLock (t : TS) : TS := fun D σ H => ∃ d u, H d = some u ∧ Mut (some u) ∧ ∀ od, t ⟨fun σ' H' => H' d = some (.frz od u) ∧ D.nx σ' (upd H' d u), fun v H' => H' d = some (.frz od u) ∧ D.rt v (upd H' d u), fun σ' H' => H' d = some (.frz od u) ∧ D.bk σ' (upd H' d u), fun σ' H' => H' d = some (.frz od u) ∧ D.ct σ' (upd H' d u)⟩ σ (upd H d (.frz od u))
def tLockE (t : TE) : TE := fun σ H Q => ∃ d u, H d = some u ∧ Mut (some u) ∧ ∀ od, t σ (upd H d (.frz od u)) fun v H' => H' d = some (.frz od u) ∧ Q v (upd H' d u)
section
variable {X : Cx}
theorem ps_lock {st : Stmt} {t : TS} (h : PS X st t) : PS X st (tLock t) := by
  intro pins s σ H D I hw
  obtain ⟨d, u, hd, mu, hw⟩ := hw
  obtain ⟨od, I1⟩ := I.lock hd mu
  refine thn (h pins s σ _ _ I1 (hw od)) fun f s1 q => ?_
  cases f with
  | next => obtain ⟨σ', H', I2, e, q⟩ := q; exact ⟨σ', _, I2.unlock e (I.nofrz hd mu), q⟩
  | brk => obtain ⟨σ', H', I2, e, q⟩ := q; exact ⟨σ', _, I2.unlock e (I.nofrz hd mu), q⟩
  | cont => obtain ⟨σ', H', I2, e, q⟩ := q; exact ⟨σ', _, I2.unlock e (I.nofrz hd mu), q⟩
  | ret v => obtain ⟨x, σ', H', I2, r, e, q⟩ := q; exact ⟨x, σ', _, I2.unlock e (I.nofrz hd mu), r, q⟩
theorem pe_lock {e : Expr} {t : TE} (h : PE X e t) : PE X e (tLockE t) := by
  intro pins s σ H Q I hw
  obtain ⟨d, u, hd, mu, hw⟩ := hw
  obtain ⟨od, I1⟩ := I.lock hd mu
  refine thn (h pins s σ _ _ I1 (hw od)) fun v s1 ⟨x, H1, I2, r, e2, q⟩ => ?_
  exact ⟨x, _, I2.unlock e2 (I.nofrz hd mu), r, q⟩
theorem pi_one {tg : Expr} {pins : List (Addr × Obj)} {σ : St} {H : Hp} {s : Shared} {R : It → Hp → Prop} {J : It} {tn : Nat → Heap → Prop} {tk : Nat} (I : Inv X pins σ H s) (o : Obj)
    (T : Turn X.prog X.w X.K tg J [s.heap.objs.size] s.heap.objs.size tn) (st : tn 0 (s.heap.push o)) (q : R J H) : PIE X pins σ tg R (.ref s.heap.objs.size) { s with heap := s.heap.push o, toks := tk } := by
  refine ⟨s.heap.objs.size, [s.heap.objs.size], tn, J, H, rfl, I.kept fun b ob e => Heap.get?_push_of_some _ e, T, st, fun b hb => ?_, q⟩
  have e : b = s.heap.objs.size := by simpa using hb
  subst e
  exact I.fpOk (Nat.le_refl _) (I.hok.fresh (Nat.le_refl _))
end
theorem kv_get {κ : Type} {kvs : List (κ × V)} {vs : List (κ × Value)} (h : KV kvs vs) : ∀ {i : Nat} {k : κ} {v : V}, kvs[i]? = some (k, v) → ∃ u, vs[i]? = some (k, u) ∧ RelV v u := by
  unfold KV at h
  induction h with
  | nil => intro i k v e; simp at e
  | @cons a b l₁ l₂ r t ih =>
    intro i k v e
    cases i with
    | zero =>
      simp only [List.getElem?_cons_zero, Option.some.injEq] at e
      subst e
      refine ⟨b.2, ?_, r.2⟩
      simp only [List.getElem?_cons_zero]
      exact congrArg some (Prod.ext r.1.symm rfl)
    | succ j =>
      simp only [List.getElem?_cons_succ] at e ⊢
      exact ih e
theorem paired_get {α β : Type} {G : α → β → Prop} {l₁ : List α} {l₂ : List β} (h : Paired G l₁ l₂) : ∀ {i : Nat} {a : α}, l₁[i]? = some a → ∃ b, l₂[i]? = some b ∧ G a b := by
  induction h with
  | nil => intro i a e; simp at e
  | @cons a b l₁ l₂ r t ih =>
    intro i a' e
    cases i with
    | zero =>
      simp only [List.getElem?_cons_zero, Option.some.injEq] at e
      subst e
      exact ⟨b, rfl, r⟩
    | succ j =>
      simp only [List.getElem?_cons_succ] at e ⊢
      exact ih e
theorem relV_key {k : Key} {u : Value} (h : keyIs k u = true) : RelV (kV k) u := by
  rcases keyIs_shape h with ⟨i, t, rfl, rfl⟩ | ⟨x, t, rfl, rfl⟩
  · exact ⟨t, rfl⟩
  · exact ⟨t, rfl⟩
section
variable {X : Cx} {pins : List (Addr × Obj)} {σ : St} {H : Hp} {s : Shared} {d : Addr} {o : Obj}
theorem Inv.frzK {kvs : List (Key × V)} (I : Inv X pins σ H s) (h : H d = some (.frz o (.dK kvs))) :
    (d == sysModules) = false ∧ s.heap.get? d = some o ∧ o.ExactDict ∧ ∃ (es : Array DictEntry) (ep : Nat) (vs : List (Key × Value)), o.data = .dict es ep ∧ es.size = kvs.length ∧ KV kvs vs ∧ s.heap.DictAt (mixKind X.prog X.w) d vs ep := by
  obtain ⟨hd, z, hs, vs, kv, o', es, ep, ho, hx, hdt, r⟩ := I.hok d _ h
  rw [hd] at ho
  cases ho
  refine ⟨hs, hd, hx, es, ep, vs, hdt, ?_, kv, o, es, hd, hx, hdt, r⟩
  have l1 := r.2.1.length
  have l2 : kvs.length = vs.length := Paired.length kv
  rw [Array.length_toList] at l1
  omega
end
def Itd (d : Addr) (o : Obj) (kvs : List (Key × V)) : It :=
  ⟨fun i H => H d = some (.frz o (.dK kvs)) ∧ i < kvs.length, fun i H x H' => H' = H ∧ ∃ k, kvs[i]? = some (k, x), fun i H => H d = some (.frz o (.dK kvs)) ∧ kvs.length ≤ i⟩
theorem dict_ep {o : Obj} {es es' : Array DictEntry} {ep ep' : Nat} (h : o.data = .dict es ep) (h' : o.data = .dict es' ep') : es' = es ∧ ep' = ep := by
  rw [h] at h'
  cases h'
  exact ⟨rfl, rfl⟩
section
variable {P : Program} {w : World} {K : PySem.W.Frag} {tg : Expr} {d : Addr} {o : Obj} {es : Array DictEntry} {ep : Nat}
theorem turn_vals {kvs : List (Key × V)} (it : Addr) (hod : o.data = .dict es ep) : Turn P w K tg (Itd d o kvs) [it] it (fun i h => h.IsValIter it d i kvs.length ep) where
  mem := by simp
  obj := fun i h st b hb => by
    have e : b = it := by simpa using hb
    subst e
    obtain ⟨oi, e, c, dd⟩ := st
    exact ⟨oi, e, fun v z => by rw [dd] at z; cases z⟩
  keep := fun i h h' st k => st.at fun oi e => k it (by simp) oi e
  item := by
    intro X hP hw hK hc i pins s σ H E I hf st hg
    subst hP hw hK
    obtain ⟨hd, hi⟩ := hg
    obtain ⟨f0, f1, f2, f3, f4, f5⟩ := hf it (by simp)
    obtain ⟨hs, hgd, hx, es', ep', vs, hdt, hsz, kv, hm⟩ := I.frzK hd
    obtain ⟨rfl, rfl⟩ := dict_ep hod hdt
    obtain ⟨⟨k, v⟩, hkv⟩ : ∃ p, kvs[i]? = some p := ⟨kvs[i], List.getElem?_eq_getElem hi⟩
    obtain ⟨u, hu, ru⟩ := kv_get kv hkv
    have hl : kvs.length = vs.length := Paired.length kv
    rw [hl] at st
    refine wpAny_pyNext_values_item st hm hu fun h' st' sb => ?_
    have I1 : Inv X pins σ H { s with heap := h' } := I.turned (t' := s.toks) (fun b ob hb e => (sb.2 b hb).trans e) f0 f1 f3 f4 f5
    obtain ⟨oi, e, c, dd⟩ := id st'
    refine ⟨u, rfl, go_of (s := { s with heap := h' }) e c dd (by decide) ⟨v, H, I1, ru, ⟨rfl, k, hkv⟩, ?_, fun b hb => (hf b hb).1⟩⟩
    show h'.IsValIter it d (i + 1) kvs.length _
    rw [hl]
    exact st'
  done := by
    intro X hP hw hK hc i pins s σ H E I hf st hg
    subst hP hw hK
    obtain ⟨hd, hi⟩ := hg
    obtain ⟨f0, f1, f2, f3, f4, f5⟩ := hf it (by simp)
    obtain ⟨hs, hgd, hx, es', ep', vs, hdt, hsz, kv, hm⟩ := I.frzK hd
    obtain ⟨rfl, rfl⟩ := dict_ep hod hdt
    have hl : kvs.length = vs.length := Paired.length kv
    rw [hl] at st
    exact wpAny_pyNext_values_end (I.ok.hd hc) st hm (List.getElem?_eq_none (by omega)) fun h' eb => ⟨rfl, I.turned (t' := s.toks) (fun b ob hb e => eb b ob hb e) f0 f1 f3 f4 f5⟩
  self := fun A i s Q E st h => wpAny_pyIter_valiter st h
end
def iVals (td : TE) : TI := fun σ H R => td σ H fun x H1 => ∃ d o kvs, x = .ref d ∧ H1 d = some (.frz o (.dK kvs)) ∧ R (Itd d o kvs) H1
section
variable {X : Cx} {tg e : Expr} {td : TE} {apos cpos : Pos}
theorem pi_values (he : PE X e td) (hbase : attributeBase e "values" X.env (eval e X.env) = eval e X.env := by rfl) (hline : (apos.endLine == cpos.line) = true := by rfl) : PI X tg (.Call (.Attribute e "values" apos) [] [] cpos) (iVals td) := by
  intro pins s σ H R I h
  refine wpAny_Call_method (T := "dict") (id := "dict.values") hbase rfl hline F.plainAttrs_dict F.slot_dict_values F.type_dict_values (thn (he pins s σ H _ I h) fun u s1 ⟨x, H1, I1, rx, d, o, kvs, ex, hd, q⟩ => ?_)
  subst ex
  obtain rfl : u = Value.ref d := rx
  obtain ⟨hs, hgd, hx, es, ep, vs, hdt, hsz, kv, hm⟩ := I1.frzK hd
  have hl : kvs.length = vs.length := Paired.length kv
  refine ⟨hm.dictOf.typeIs, hm.dictOf.mapOf.noDict, ?_⟩
  have I2 : Inv X pins σ H1 { s1 with heap := s1.heap.push { cls := .type "dict_values", data := .fields #[.ref d] } } := I1.kept (t' := s1.toks) fun b ob q => Heap.get?_push_of_some _ q
  have fin : wpAny (model X.prog X.w) X.A (pyIter (.ref s1.heap.objs.size)) (PIE X pins σ tg R) X.xe { s1 with heap := s1.heap.push { cls := .type "dict_values", data := .fields #[.ref d] } } := by
    refine wpAny_pyIter_values (d := d) (knd := mixKind X.prog X.w) ⟨_, Heap.get?_push_size _ rfl, rfl, rfl⟩ (hm.push _) (pi_one (tk := s1.toks) I2 _ (turn_vals _ hdt) ⟨_, Heap.get?_push_size _ rfl, rfl, ?_⟩ q)
    rw [hl] <;> rfl
  show wpAny _ _ (callWith cpos (.builtin "dict.values") [.ref d] [] []) _ X.xe s1
  exact method_meetsIn F.slot_dict_values F.entry_dict_values rfl (PySem.evalArgs_none ⟨rfl, hm.dictOf.typeIs, F.args_dict_values_1 _, _, meets_dict_values (mixKind X.prog X.w) d hs, ⟨vs, hm.dictOf⟩, fin⟩)
end
end L2
section
namespace TL
open PySem PySem.Builtin PySem.Builtin.Str PySem.StrLaws
def pre (S l : List Nat) : Bool := l.take S.length == S
def par (S : List Nat) : List Nat → List Nat → Option (List Nat × List Nat)
  | _, [] => none
  | acc, c :: r => if pre S (c :: r) = true then some (acc, (c :: r).drop S.length) else par S (acc ++ [c]) r
end TL
end
namespace Att
open PySem PySem.W PySem.Calls PyProof.Rows
theorem ints_of_wellAll {P : Params} {h : Heap} : ∀ (ns : List Int) (vs : List Value), WellAll P h vs (ns.map WData.int) → IntsAre vs ns := by
  intro ns
  induction ns with
  | nil =>
    intro vs w
    rw [List.map_nil] at w
    cases w
    exact .nil
  | cons n ns ih =>
    intro vs w
    rw [List.map_cons] at w
    cases w with
    | cons a b =>
      cases a
      exact .cons _ _ (ih _ b)
end Att
namespace L2
open PySem PySem.Spec PyProof.Rows
theorem vals_ints : ∀ {vs : List Value} {ns : List Int}, IntsAre vs ns → Vals (ns.map V.int) vs
  | _, _, .nil => .nil
  | _, _, .cons n t h => .cons ⟨t, rfl⟩ (vals_ints h)
def Only (H : Hp) : Prop := ∀ b, H b = none ∨ ∃ o xs, H b = some (.frz o (.lst xs))
end L2
namespace L2
open PySem PySem.Spec PyProof.Rows
def inClass (s : Stmt) (j : Nat) : Stmt := match s with
  | .ClassDef _ _ _ body _ _ _ _ _ _ _ => body.getD j (.Pass ⟨0, 0, 0, 0⟩)
  | _ => .Pass ⟨0, 0, 0, 0⟩
def defArgs (s : Stmt) : Arguments := match s with
  | .FunctionDef _ a _ _ _ _ _ _ _ _ => a
  | _ => { posonlyargs := [], args := [], vararg := none, kwonlyargs := [], kw_defaults := [], kwarg := none, defaults := [] }
def defBody (s : Stmt) : List Stmt := match s with
  | .FunctionDef _ _ b _ _ _ _ _ _ _ => b
  | _ => []
def defScope (s : Stmt) : Scope := match s with
  | .FunctionDef _ _ _ _ _ _ sc _ _ _ => sc
  | _ => { kind := .function, names := [], isGenerator := false, isCoroutine := false }
abbrev CX0 : CXT := fun _ _ _ _ _ _ => False
abbrev E0 : XK := fun _ _ _ => False
theorem pass0 {X : Cx} : Passes CX0 X E0 := fun _ _ _ _ _ _ _ h => h.elim
structure Fun (K : PySem.W.Frag) (x qual : Str) (st : Stmt) (f : Addr) (fd : FuncData) : Prop where
  ex : ∃ (oc : Value) (od : Option Addr) (kV doc pm : Value) (an : Option Addr) (cdv ct : Value) (osl : Array (Option Value)),
    fd = PySem.W.fnOf x qual (defArgs st) (defBody st) (defScope st) .none kV doc pm an cdv ct ∧ K.lookup f = some ⟨oc, od, .func fd, osl⟩ ∧ PySem.W.codeIn K cdv qual = true
  kp : PySem.W.keepIn K (.ref f) = true
section
variable {P : Program} {w : World} {K : PySem.W.Frag} {mg : Str → Option Value} {base : Heap}
theorem Fun.ok {x qual : Str} {st : Stmt} {f : Addr} {fd : FuncData} {N ps : List Str} {k : Nat} {sp : Sp} (F : Fun K x qual st f fd) (S : FnScope N ps (defScope st)) (len : ∀ vs H Q E, sp vs H Q E → vs.length = ps.length)
    (hbody : ∀ (cdv : Value) (A : Around) (outer : List Env) (s : Shared) (H : Hp) (vs : List V) (Q : VK) (E : XK), Room k (A.deeper (envOfC qual (defScope st) s.heap.objs.size f cdv)) → sp vs H Q E →
      ∃ t, PSs (cxOf CX0 P w K mg base N qual (defScope st) f cdv A outer s H E).nox (defBody st) t ∧ t { nx := fun _ H' => Q .non H', rt := Q } (start N vs) H) : FnOk P w K mg base CX0 (k + 1) f fd ps sp := by
  obtain ⟨oc, od, kV, doc, pm, an, cdv, ct, osl, rfl, lk, hcd⟩ := F.ex
  refine fn_of lk hcd S len fun A outer s H vs Q E hr hsp => ?_
  obtain ⟨t, h, q⟩ := hbody cdv A outer s H vs Q E hr hsp
  exact ⟨t, h.nox, q⟩
theorem fun_mk {x qual : Str} {st : Stmt} {f : Addr} {oc : Value} {od an : Option Addr} {osl : Array (Option Value)} {kV doc pm cdv ct : Value} (l : K.lookup f = some ⟨oc, od, .func (PySem.W.fnOf x qual (defArgs st) (defBody st) (defScope st) .none kV doc pm an cdv ct), osl⟩)
    (c : PySem.W.codeIn K cdv qual = true) (k : PySem.W.keepIn K (.ref f) = true) : Fun K x qual st f (PySem.W.fnOf x qual (defArgs st) (defBody st) (defScope st) .none kV doc pm an cdv ct) := ⟨⟨oc, od, kV, doc, pm, an, cdv, ct, osl, rfl, l, c⟩, k⟩
end
theorem hu_of {A : Around} {k : Nat} (hr : Room k A) : A.units + 1 < cLine := Nat.lt_of_le_of_lt (Nat.add_le_add_left (by decide : 1 ≤ 64) _) hr.units
section
variable {X : Cx}
theorem pv (i : Nat) {x : Str} {pos : Pos} (hN : X.N[i]? = some x := by rfl) (hv : Vis X.env.scope x := by first | exact Or.inl rfl | exact Or.inr (Or.inl rfl) | exact Or.inr (Or.inr rfl)) (hd : (x == ("__debug__" : Str)) = false := by decide)
    (hcd : (x == ("__classdict__" : Str)) = false := by decide) : PE X (.Name x pos) (tVar i) := pe_var hN hv hd hcd
theorem call_lenD : CallR X (.builtin "len") (fun xs H Q => ∃ a kvs, xs = [V.ref a] ∧ H a = some (.dK kvs) ∧ Q (.int kvs.length) H) := by
  intro pins s σ H xs us Q I r h
  obtain ⟨a, kvs, rfl, ha, q⟩ := h
  obtain ⟨u, rfl, ru⟩ := vals1 r
  cases ru
  exact d_len I (.inl ha) fun t s' I' => ⟨.int kvs.length, H, I', ⟨t, rfl⟩, q⟩
end
theorem iteF {A B : Prop} (h : B) : if false = true then A else B := by
  rw [if_neg Bool.false_ne_true]
  exact h
theorem iteT {A B : Prop} (h : A) : if true = true then A else B := by
  rw [if_pos rfl]
  exact h
theorem ite2 {c A B : Prop} [Decidable c] (h1 : c → A) (h2 : ¬ c → B) : if c then A else B := by
  by_cases h : c
  · rw [if_pos h]
    exact h1 h
  · rw [if_neg h]
    exact h2 h
end L2
end
section
namespace L2
open PySem PySem.Spec PyProof.Rows
theorem vals_at : ∀ {xs : List V} {us : List Value}, xs.length = us.length → (∀ (j : Nat) x u, xs[j]? = some x → us[j]? = some u → RelV x u) → Vals xs us
  | [], [], _, _ => .nil
  | [], _ :: _, h, _ => nomatch h
  | _ :: _, [], h, _ => nomatch h
  | x :: xs, u :: us, h, f => .cons (f 0 x u rfl rfl) (vals_at (Nat.succ.inj h) fun j y v a b => f (j + 1) y v a b)
section
variable {prog : Program} {w : World} {A : Around} {E : Value → Shared → Prop} {s : Shared} {κ : Type} [DecidableEq κ] {knd : PySem.KeyKind prog w κ}
theorem collectD {d : Addr} {kvs : List (κ × Value)} {ep : Nat} {R : List Value → Shared → Prop} (lo : (d == sysModules) = false) (hh : A.handled = none) (hd : s.heap.DictAt knd d kvs ep) (hn : kvs.length ≤ sizeLine)
    (h : ∀ (h' : Heap) (tk : Nat) (acc : Array Value), (∀ b o, s.heap.get? b = some o → h'.get? b = some o) → s.heap.objs.size < h'.objs.size → ItemsOf (fun i v => ∃ k x, kvs[i]? = some (k, x) ∧ knd.is k v = true) acc kvs.length → R acc.toList { s with heap := h', toks := tk }) :
    wpAny (model prog w) A (collect (.ref d)) R E s := by
  have lt := hd.lt_size
  have src := PySem.W.kdl_dict (prog := prog) (w := w) (knd := knd) (kvs := kvs) (ep := ep) lo
  unfold collect
  refine wpAny_bind (wpAny_runValue (codeAny_builtin PySem.F.entry_proto_collect ?_))
  rw [Around.under_plainId PySem.F.plain_proto_collect]
  show wpAny _ A.in1 (newList [] >>= fun z => again (.builtin "list.__iadd__" ⟨[z, .ref d], []⟩)) _ _ s
  refine wpAny_bind (wpAny_newObj_type ?_)
  refine wpAny_pure ⟨plainId_quiet PySem.F.plain_list_iadd _, codeAny_builtin PySem.F.entry_list_iadd ?_⟩
  rw [Around.under_plainId PySem.F.plain_list_iadd]
  have new1 := Heap.get?_push_size s.heap (o := { cls := .type "list", data := .seq ([] : List Value).toArray }) rfl
  show wpAny _ A.in1 (Builtin.List.listExtendWith (.ref s.heap.objs.size) (.ref d) (.ref s.heap.objs.size)) _ _ _
  have go := PySem.W.kdl_extend (A := A) (s := { s with heap := s.heap.push { cls := .type "list", data := .seq ([] : List Value).toArray } })
    (R := fun q z => ∃ h' tk acc c, q = Except.ok (Flow.ret (.ref s.heap.objs.size)) ∧ z = { s with heap := h', toks := tk } ∧ (∀ b o, s.heap.get? b = some o → h'.get? b = some o) ∧
      h'.get? s.heap.objs.size = some { cls := .type "list", dict := none, data := .seq acc c, slots := #[] } ∧ ItemsOf (fun i v => ∃ k x, kvs[i]? = some (k, x) ∧ knd.is k v = true) acc kvs.length)
    src hh (hd.push _) s.heap.objs.size (Nat.ne_of_gt lt) (Nat.ne_of_gt lt) (.ref s.heap.objs.size) 0 new1
    (fun h' tk acc c old at' its => ⟨h', tk, acc, c, rfl, rfl, fun b o e => old b o (Nat.ne_of_lt (Heap.lt_size e)) (Heap.get?_push_of_some _ e), at', its⟩) hn
  refine wpAny_mono go (fun f z x => ?_) fun e z x => ?_
  · cases f with
    | done f =>
      obtain ⟨h', tk, acc, c, e, rfl, old, at', its⟩ := x
      cases e
      refine wpAny_bind (wpAny_load at' ?_)
      exact wpAny_pure (h h' tk acc old (Heap.lt_size at') its)
    | again c1 =>
      refine ⟨x.1, codeAny_mono x.2 fun q z2 y => ?_⟩
      obtain ⟨h', tk, acc, c, rfl, rfl, old, at', its⟩ := y
      refine wpAny_bind (wpAny_load at' ?_)
      exact wpAny_pure (h h' tk acc old (Heap.lt_size at') its)
  · obtain ⟨_, _, _, _, e', _⟩ := x
    cases e'
end
theorem for_vals {d : Addr} {ob : Obj} {kvs : List (Key × V)} {g : TG} {tb : TS} {D : Ends} {σ : St} {H : Hp} (Pv : Nat → St → Hp → Prop) (h0 : Pv 0 σ H) (hl : ∀ i σ H, Pv i σ H → H d = some (.frz ob (.dK kvs)))
    (hs : ∀ i k x σ H, kvs[i]? = some (k, x) → Pv i σ H → g x σ H fun σ2 H2 => tb { D with nx := Pv (i + 1), ct := Pv (i + 1), bk := D.nx } σ2 H2) (hd : ∀ σ H, Pv kvs.length σ H → D.nx σ H) :
    ∃ W : Nat → Nat → St → Hp → Prop, (∃ m, W 0 m σ H) ∧ ∀ i m σ H, W i m σ H →
      ((Itd d ob kvs).stop i H ∧ D.nx σ H) ∨ ((Itd d ob kvs).go i H ∧ ∃ N : St → Hp → Prop, (∀ σ' H', N σ' H' → ∃ m', m' < m ∧ W (i + 1) m' σ' H') ∧ ∀ x H', (Itd d ob kvs).yld i H x H' → g x σ H' fun σ2 H2 => tb { D with nx := N, ct := N, bk := D.nx } σ2 H2) := by
  refine ⟨fun i m σ H => m = kvs.length - i ∧ i ≤ kvs.length ∧ Pv i σ H, ⟨_, rfl, Nat.zero_le _, h0⟩, ?_⟩
  rintro i m σ H ⟨rfl, hi, p⟩
  rcases Nat.lt_or_ge i kvs.length with lt | ge
  · refine .inr ⟨⟨hl i σ H p, lt⟩, Pv (i + 1), fun σ' H' p' => ⟨_, Nat.sub_lt_sub_left lt (Nat.lt_succ_self i), rfl, lt, p'⟩, fun x H' ⟨e, k, y⟩ => ?_⟩
    subst e
    exact hs i k x σ _ y p
  · obtain rfl : i = kvs.length := Nat.le_antisymm hi ge
    exact .inl ⟨⟨hl _ σ H p, Nat.le_refl _⟩, hd σ H p⟩
theorem lc_someD {α : Type} {H : Hp} {d D : Addr} {ob : Obj} {ys : List α} {ky : α → Key} {v f : α → V} {p : α → Bool} {g : TG} {tt : TT} {te : TE} {vs : List Nat} {σ : St} {Qd : Hp → Prop} (hl : H d = some (.frz ob (.dK (ys.map fun y => (ky y, v y))))) (hD : H D = none) (hz : ys.length < sizeLine)
    (hs : ∀ (y : α) (H2 : Hp) (N : Hp → Prop), y ∈ ys → (∀ b u, H b = some u → H2 b = some u) → (p y = true → ∃ acc, H2 D = some (.lst acc) ∧ acc.length < sizeLine ∧ N (upd H2 D (.lst (acc ++ [f y])))) → (p y = false → N H2) →
      g (v y) (wipe σ vs) H2 fun σ2 H3 => wipe σ2 vs = wipe σ vs ∧ tt σ2 H3 fun b H4 => if b = true then te σ2 H4 fun z H5 => ∃ acc, H5 D = some (.lst acc) ∧ acc.length < sizeLine ∧ N (upd H5 D (.lst (acc ++ [z]))) else N H4)
    (hd : Qd (upd H D (.lst ((ys.filter p).map f)))) :
    ∃ W : Nat → Nat → Hp → Prop, (∃ m, W 0 m (upd H D (.lst []))) ∧ ∀ i m H, W i m H →
      ((Itd d ob (ys.map fun y => (ky y, v y))).stop i H ∧ Qd H) ∨ ((Itd d ob (ys.map fun y => (ky y, v y))).go i H ∧ ∃ Nx : Hp → Prop, (∀ H', Nx H' → ∃ m', m' < m ∧ W (i + 1) m' H') ∧ ∀ x H', (Itd d ob (ys.map fun y => (ky y, v y))).yld i H x H' → g x (wipe σ vs) H' fun σ2 H2 => wipe σ2 vs = wipe σ vs ∧ tt σ2 H2 fun b H3 =>
        if b = true then te σ2 H3 fun y H4 => ∃ acc, H4 D = some (.lst acc) ∧ acc.length < sizeLine ∧ Nx (upd H4 D (.lst (acc ++ [y]))) else Nx H3) := by
  have nl : d ≠ D := ne_of_none hl hD
  have at_ : ∀ i, (upd H D (.lst (((ys.take i).filter p).map f))) d = some (.frz ob (.dK (ys.map fun y => (ky y, v y)))) := fun i => by rw [upd_ne nl]; exact hl
  refine ⟨fun i m H2 => m = ys.length - i ∧ i ≤ ys.length ∧ H2 = upd H D (.lst (((ys.take i).filter p).map f)), ⟨_, rfl, Nat.zero_le _, by simp⟩, ?_⟩
  rintro i m H2 ⟨rfl, hi, rfl⟩
  rcases Nat.lt_or_ge i ys.length with lt | ge
  · refine .inr ⟨⟨at_ i, by rw [List.length_map]; exact lt⟩, fun H' => H' = upd H D (.lst (((ys.take (i + 1)).filter p).map f)), fun H' e => ⟨_, Nat.sub_lt_sub_left lt (Nat.lt_succ_self i), rfl, lt, e⟩, fun x H' ⟨e, k, y⟩ => ?_⟩
    subst e
    rw [List.getElem?_map] at y
    obtain ⟨z, hzi, ez⟩ := Option.map_eq_some_iff.mp y
    have ex : x = v z := (congrArg Prod.snd ez).symm
    subst ex
    have len : (((ys.take i).filter p).map f).length < sizeLine := by
      rw [List.length_map]
      have a := List.length_filter_le p (ys.take i)
      have b : (ys.take i).length ≤ ys.length := by rw [List.length_take]; omega
      omega
    have ts : ys.take (i + 1) = ys.take i ++ [z] := by rw [List.take_succ, hzi]; rfl
    refine hs z _ _ (List.mem_of_getElem? hzi) (fun b u hb => by rw [upd_ne (ne_of_none hb hD)]; exact hb) (fun q => ⟨_, upd_same, len, ?_⟩) fun q => ?_
    · rw [upd_upd, ts, List.filter_append]
      congr 2
      simp [q]
    · rw [ts, List.filter_append]
      congr 2
      simp [q]
  · obtain rfl : i = ys.length := Nat.le_antisymm hi ge
    refine .inl ⟨⟨at_ _, by rw [List.length_map]; exact Nat.le_refl _⟩, ?_⟩
    rw [List.take_length]
    exact hd
theorem lc_some {α : Type} {K : PySem.W.Frag} {H : Hp} {l D : Addr} {ys : List α} {v f : α → V} {p : α → Bool} {g : TG} {tt : TT} {te : TE} {vs : List Nat} {σ : St} {Qd : Hp → Prop} (hl : H l = some (.lst (ys.map v))) (hD : H D = none) (hz : ys.length < sizeLine)
    (hs : ∀ (y : α) (H2 : Hp) (N : Hp → Prop), y ∈ ys → (∀ b u, H b = some u → H2 b = some u) → (p y = true → ∃ acc, H2 D = some (.lst acc) ∧ acc.length < sizeLine ∧ N (upd H2 D (.lst (acc ++ [f y])))) → (p y = false → N H2) →
      g (v y) (wipe σ vs) H2 fun σ2 H3 => wipe σ2 vs = wipe σ vs ∧ tt σ2 H3 fun b H4 => if b = true then te σ2 H4 fun z H5 => ∃ acc, H5 D = some (.lst acc) ∧ acc.length < sizeLine ∧ N (upd H5 D (.lst (acc ++ [z]))) else N H4)
    (hd : Qd (upd H D (.lst ((ys.filter p).map f)))) :
    ∃ W : Nat → Nat → Hp → Prop, (∃ m, W 0 m (upd H D (.lst []))) ∧ ∀ i m H, W i m H →
      ((Itl K l).stop i H ∧ Qd H) ∨ ((Itl K l).go i H ∧ ∃ Nx : Hp → Prop, (∀ H', Nx H' → ∃ m', m' < m ∧ W (i + 1) m' H') ∧ ∀ x H', (Itl K l).yld i H x H' → g x (wipe σ vs) H' fun σ2 H2 => wipe σ2 vs = wipe σ vs ∧ tt σ2 H2 fun b H3 =>
        if b = true then te σ2 H3 fun y H4 => ∃ acc, H4 D = some (.lst acc) ∧ acc.length < sizeLine ∧ Nx (upd H4 D (.lst (acc ++ [y]))) else Nx H3) := by
  have old : ∀ zs : List V, ∀ b u, H b = some u → (upd H D (.lst zs)) b = some u := fun zs b u h => by rw [upd_ne (ne_of_none h hD)]; exact h
  refine lc_list (K := K) (a := l) (xs := ys.map v) (fun i H2 => H2 = upd H D (.lst (((ys.take i).filter p).map f))) (by simp) (fun i H2 _ e => by rw [e]; exact SqL.of (old _ _ _ hl)) ?_ ?_
  · rintro i x H2 hi rfl
    rw [List.getElem?_map] at hi
    obtain ⟨z, hzi, rfl⟩ := Option.map_eq_some_iff.mp hi
    have len : (((ys.take i).filter p).map f).length < sizeLine := by
      rw [List.length_map]
      have a := List.length_filter_le p (ys.take i)
      have b : (ys.take i).length ≤ ys.length := by rw [List.length_take]; omega
      omega
    have ts : ys.take (i + 1) = ys.take i ++ [z] := by rw [List.take_succ, hzi]; rfl
    refine hs z _ (fun H' => H' = upd H D (.lst (((ys.take (i + 1)).filter p).map f))) (List.mem_of_getElem? hzi) (old _) (fun q => ⟨_, upd_same, len, ?_⟩) fun q => ?_
    · rw [upd_upd, ts, List.filter_append]
      congr 2
      simp [q]
    · rw [ts, List.filter_append]
      congr 2
      simp [q]
  · rintro H2 rfl
    rw [List.length_map, List.take_length]
    exact hd
section
variable {X : Cx}
def rSortedD : List V → Hp → VK → Prop := fun vs H Q => ∃ (d : Addr) (kvs : List (Key × V)) (ns : List Int), vs = [V.ref d] ∧ Rd H d (.dK kvs) ∧ kvs.map (·.1) = ns.map Sum.inl ∧
  ∀ (ns' : List Int) (p : Addr), ns'.Perm ns → ns'.Pairwise (· ≤ ·) → H p = none → Q (.ref p) (upd H p (.lst (ns'.map V.int)))
theorem cr_sortedD (hc : X.calm = true) : CallR X (.builtin "sorted") rSortedD := by
  intro pins s σ H vs us Q I r h
  obtain ⟨d, kvs, ns, rfl, hd, hk, q⟩ := h
  obtain ⟨hz, hm, ws, rel, dd⟩ := dk_rd I.hok hd
  obtain ⟨ep, da⟩ := dd.dictAt
  have hl : kvs.length = ws.length := Paired.length rel
  have hkl : kvs.length = ns.length := by have := congrArg List.length hk; simpa using this
  rw [Vals.ref1 r]
  refine Calls.call_function_entry kind_sorted plain_sorted entry_sorted (args_sorted1 _) ?_
  unfold Builtin.«sorted»
  refine wpAny_bind (m := checkCount "sorted" 1 1 _) (wpAny_pure ?_)
  refine wpAny_bind (collectD (A := X.A.in1) hm (I.ok.hd hc) da (by rw [← hl]; exact hz) fun h' tk acc old lt its => ?_)
  have al : acc.toList.length = ns.length := by rw [Array.length_toList, its.1, ← hl, hkl]
  have hv : Vals (ns.map V.int) acc.toList := by
    refine vals_at (by rw [List.length_map, al]) fun j x u hx hu => ?_
    rw [List.getElem?_map] at hx
    obtain ⟨n, hn, rfl⟩ := Option.map_eq_some_iff.mp hx
    obtain ⟨k, y, e1, e2⟩ := its.2 j u (by rw [← Array.getElem?_toList]; exact hu)
    have jl : j < kvs.length := by rw [hl]; exact (List.getElem?_eq_some_iff.mp e1).1
    obtain ⟨z, hz2, rz⟩ := kv_get rel (i := j) (k := (kvs[j]).1) (v := (kvs[j]).2) (List.getElem?_eq_getElem jl)
    rw [e1] at hz2
    cases hz2
    have e3 : (kvs.map (·.1))[j]? = (ns.map Sum.inl)[j]? := by rw [hk]
    rw [List.getElem?_map, List.getElem?_map, List.getElem?_eq_getElem jl, hn] at e3
    have e4 : (kvs[j]).1 = Sum.inl n := Option.some.inj e3
    rw [e4] at e2
    exact relV_key (k := Sum.inl n) e2
  have hi := hv.ints
  refine wpAny_bind (wpAny_newList ?_ (by rw [al, ← hkl]; exact hz))
  have hob : (h'.push { cls := .type "list", data := .seq acc.toList.toArray }).get? h'.objs.size = some (seqObj "list" acc.toList.toArray 0) := Heap.get?_push_size _ rfl
  refine wpAny_bind (wpAny_holding (wpAny_call_entry slot_list_sort ⟨_, hob, rfl⟩ entry_list_sort (list_sort_treeAny hob hi (by rw [al, ← hkl]; exact hz) fun out ns' h1 h2 h3 => ⟨_, rfl, ?_⟩) (args_list_sort _)))
  obtain ⟨e2, he'⟩ := sortedHeap_at (vs := acc.toList) (out := out) hob
  have hlen : (ns'.map V.int).length ≤ sizeLine := by rw [List.length_map, h2.length_eq, ← hkl]; exact hz
  have lt2 : s.heap.objs.size ≤ h'.objs.size := Nat.le_of_lt lt
  refine wpAny_pure ⟨_, rfl, .ref h'.objs.size, upd H h'.objs.size (.lst (ns'.map V.int)), I.laid (t' := tk) (fun b u e => ?_) lt2 ⟨hlen, out.toList, e2, vals_of_ints h1, he'⟩, rfl, q ns' _ h2 h3 (I.hok.fresh lt2)⟩
  have e3 := old b u e
  have lb : b < h'.objs.size := Heap.lt_size e3
  rw [sortedHeap_old (Nat.ne_of_lt lb) (by rw [size_push']; exact Nat.lt_succ_of_lt lb), Heap.get?_push_ne _ _ _ (Nat.ne_of_lt lb)]
  exact e3
def rRemove : V → List V → Hp → VK → Prop := fun x vs H Q => ∃ (l : Addr) (ns : List Int) (k : Int), x = .ref l ∧ vs = [.int k] ∧ H l = some (.lst (ns.map V.int)) ∧ k ∈ ns ∧ Q .non (upd H l (.lst ((ns.erase k).map V.int)))
theorem first_at {k : Int} : ∀ {ns : List Int}, k ∈ ns → ∃ j, ns[j]? = some k ∧ (∀ m z, m < j → ns[m]? = some z → z ≠ k) ∧ ns.eraseIdx j = ns.erase k
  | [], h => nomatch h
  | n :: r, h => by
    by_cases e : n = k
    · exact ⟨0, by rw [e]; rfl, fun m z hm _ => absurd hm (Nat.not_lt_zero m), by rw [e, List.erase_cons_head]; rfl⟩
    · have hm : k ∈ r := by
        rcases List.mem_cons.mp h with q | q
        · exact absurd q.symm e
        · exact q
      obtain ⟨j, h1, h2, h3⟩ := first_at hm
      refine ⟨j + 1, h1, fun m z hmj hz => ?_, ?_⟩
      · cases m with
        | zero => intro q; rw [List.getElem?_cons_zero] at hz; exact e ((Option.some.inj hz).trans q)
        | succ m => exact h2 m z (Nat.lt_of_succ_lt_succ hmj) hz
      · rw [List.erase_cons_tail (by simpa using e), ← h3]; rfl
theorem erase_map {α β : Type} (f : α → β) : ∀ (l : List α) (i : Nat), (l.map f).eraseIdx i = (l.eraseIdx i).map f
  | [], _ => rfl
  | _ :: _, 0 => rfl
  | a :: r, i + 1 => by
    show f a :: (r.map f).eraseIdx i = f a :: (r.eraseIdx i).map f
    rw [erase_map f r i]
theorem mt_remove : MtM X "list.remove" rRemove := by
  intro pins s σ H x vs v us Q I rx rv h
  obtain ⟨l, ns, k, rfl, rfl, hH, hk, q⟩ := h
  cases rx
  obtain ⟨u, rfl, ru⟩ := rv.one
  obtain ⟨t, rfl⟩ := ru
  obtain ⟨z, its, n, r, hl, e⟩ := I.lstM hH
  obtain ⟨j, j1, j2, j3⟩ := first_at hk
  have hi := r.ints
  have hil := hi.length
  have jl : j < ns.length := (List.getElem?_eq_some_iff.mp j1).1
  have at_ : ∀ (m : Nat) (hm : m < its.length), ∃ t', its[m] = Value.int (ns.getD m 0) t' := fun m hm => by
    have h1 : (ns.map V.int)[m]? = some (V.int (ns.getD m 0)) := by
      rw [List.getElem?_map, List.getD_eq_getElem?_getD]
      rw [List.getElem?_eq_getElem (by omega)]
      rfl
    obtain ⟨u, hu, ru⟩ := r.get h1
    obtain ⟨t', rfl⟩ := ru
    exact ⟨t', (List.getElem?_eq_some_iff.mp hu).2⟩
  refine call_meets PySem.F.slot_list_remove ⟨_, e, rfl⟩ PySem.F.entry_list_remove (PySem.F.args_list_remove_2 _ _)
    (MeetsSeq.list_remove l its.toArray n (.int k t) (isInt k) (fun y hy => eq_isInt k t hi y (by simpa using hy)) j (by rw [List.size_toArray]; omega) ?_ ?_ (by rw [List.size_toArray, ← hl]; exact z)) ⟨e, ?_⟩
  · obtain ⟨t', e'⟩ := at_ j (by omega)
    have e2 : its.toArray[j]'(by rw [List.size_toArray]; omega) = Value.int (ns.getD j 0) t' := by simpa using e'
    rw [e2, List.getD_eq_getElem?_getD, j1]
    simp [isInt]
  · intro m hm hmj
    rw [List.size_toArray] at hm
    obtain ⟨t', e'⟩ := at_ m hm
    have e2 : its.toArray[m]'(by rw [List.size_toArray]; exact hm) = Value.int (ns.getD m 0) t' := by simpa using e'
    rw [e2]
    have ne : ns.getD m 0 ≠ k := j2 m _ hmj (by rw [List.getD_eq_getElem?_getD, List.getElem?_eq_getElem (by omega)]; rfl)
    rw [List.getD_eq_getElem?_getD] at ne ⊢
    simpa [isInt] using ne
  · refine ⟨.non, _, I.lset (its' := its.eraseIdx j) (ys := (ns.erase k).map V.int) hH e ?_ ?_ ?_, rfl, q⟩
    · rw [List.eraseIdxIfInBounds_toArray]
    · have := r.eraseIdx j
      rw [← j3, ← erase_map]
      exact this
    · rw [List.length_map]
      rw [List.length_map] at z
      exact Nat.le_trans (List.length_erase_le) z
def DIn (P : Program) (w : World) (K : PySem.W.Frag) (a : Addr) (kvs : List (Key × V)) : Prop := ∀ h : Heap, K.In h → ∃ vs, KV kvs vs ∧ h.DictOf (mixKind P w) a vs
theorem pe_gdget {e i : Expr} {pos : Pos} {a : Addr} {kvs : List (Key × V)} {te ty : TE} (hd : DIn X.prog X.w X.K a kvs) (he : PE X e te) (hi : PE X i ty) (hs : NoSl i) :
    PE X (.Subscript e i pos) (fun σ H Q => te σ H fun x H1 => ty σ H1 fun y H2 => x = .ref a ∧ ∃ k v, y = kV k ∧ valV kvs k = some v ∧ Q v H2) := by
  intro pins s σ H Q I h
  refine subD_of PySem.F.slot_dict_getitem.lookup hs (thn (he pins s σ H _ I h) fun u s1 ⟨x, H1, I1, rx, q1⟩ => thn (hi pins s1 σ H1 _ I1 q1) fun iv s2 ⟨y, H2, I2, ry, ex, k, v, ey, hv, q2⟩ => ?_)
  subst ex ey
  obtain rfl : u = Value.ref a := rx
  obtain ⟨vs, rel, dd⟩ := hd s2.heap I2.kIn
  obtain ⟨w', hw, rw'⟩ := RelO.some_of (v := v) (o := valueAt vs k) (by rw [← hv]; exact rel.val k)
  exact ⟨dd.typeIs, wpAny_getItem_of (kV_is ry) dd.mapOf hw ⟨v, H2, I2.tok _, rw', q2⟩⟩
end
end L2
end
section
namespace L2
open PySem PySem.Spec PyProof.Rows
theorem spec_call {P : Program} {w : World} {K : PySem.W.Frag} {mg mb : Str → Option Value} {CX : CXT} {k : Nat} {fa a : Addr} {fd : FuncData} {x : Str} {sp : Sp} {s₁ : Shared} {vs : List Value} {ns out : List Int}
    (KX : K.In s₁.heap) (hns : s₁.heap.Ns mainGlobals mg) (hb : s₁.heap.Ns builtinsNs mb) (hbb : ∀ x : Str, x ≠ "__name__" → mb x = bootBuiltins x) (hlim : s₁.heap.NoLimit) (hg : s₁.gens = #[])
    (ha : s₁.heap.get? a = some { cls := .type "list", data := .seq vs.toArray }) (hi : IntsAre vs ns) (hl : ns.length ≤ sizeLine) (hr : Room k callerA)
    (F : ∀ base : Heap, K.In base → base.Ns mainGlobals mg → FnOk P w K mg base CX k fa fd [x] sp) (hbind : ∀ (s : Shared) (u : Value), BindsTo s fd ⟨[u], []⟩ [(x, u)])
    (hsp : ∀ H : Hp, Only H → SqL K H a (ns.map V.int) → sp [.ref a] H (fun v H' => ∃ l, v = .ref l ∧ H' l = some (.lst (out.map V.int))) fun _ _ _ => False)
    (hCX : ∀ H e s', CX [] H s₁ (fun _ _ _ => False) e s' → False) :
    codeAny (model P w) callerA (.call (.ref fa) ⟨[.ref a], []⟩) (fun r s' => (∃ l its n, r = .ok (.ret (.ref l)) ∧ s'.heap.get? l = some { cls := .type "list", data := .seq its.toArray n } ∧ IntsAre its out) ∧ OldK s₁.heap s'.heap ∧ s'.os = s₁.os ∧ AllBare s'.gens) s₁ := by
  have rv := vals_ints hi
  have lenV := hi.length
  have core : ∀ H : Hp, Only H → SqL K H a (ns.map V.int) → HOk P w H s₁.heap → (∀ b, H b ≠ none → b = a) → (H a ≠ none → K.lookup a = none) →
      codeAny (model P w) callerA (.call (.ref fa) ⟨[.ref a], []⟩) (fun r s' => (∃ l its n, r = .ok (.ret (.ref l)) ∧ s'.heap.get? l = some { cls := .type "list", data := .seq its.toArray n } ∧ IntsAre its out) ∧ OldK s₁.heap s'.heap ∧ s'.os = s₁.os ∧ AllBare s'.gens) s₁ := by
    intro H hO hS hok hA hK
    have base_of : ∀ {b : Addr} {o : Obj}, s₁.heap.get? b = some o → H b = none → (hidT s₁.heap H).get? b = some o := fun e n => hidT_get e n
    have noA : ∀ {b : Addr} {o : Obj} {es : Array DictEntry} {ep : Nat}, s₁.heap.get? b = some o → o.data = .dict es ep → H b = none := fun {b o es ep} e d => by
      cases q : H b with
      | none => rfl
      | some u =>
        have e' : b = a := hA b (by rw [q]; simp)
        subst e'
        rw [ha] at e; cases e
        have d' : Data.seq vs.toArray _ = Data.dict es ep := d
        cases d'
    have nsK : ∀ {b : Addr} {m : Str → Option Value}, s₁.heap.Ns b m → (hidT s₁.heap H).Ns b m := fun {b m} ⟨o, es, ep, e, d, r⟩ => ⟨o, es, ep, base_of e (noA e d), d, r⟩
    have hKb : K.In (hidT s₁.heap H) := fun b o e => base_of (KX b o e) (by
      cases q : H b with
      | none => rfl
      | some u =>
        have e' : b = a := hA b (by rw [q]; simp)
        subst e'
        rw [hK (by rw [q]; simp)] at e; cases e)
    have hM : Mod K mg (hidT s₁.heap H) := ⟨hKb, nsK hns, ⟨mb, nsK hb, hbb⟩, let ⟨mc, h1, h2⟩ := hlim; ⟨mc, nsK h1, h2⟩⟩
    have e0 : Env0 P w K mg (hidT s₁.heap H) callerA [] s₁ H := ⟨rfl, hM, fun b o e => of_hidT e, Nat.le_of_eq (hidT_size _ _), trivial, fun b hb => absurd (show b ∈ ([] : List Addr) from hb) (by simp), hok, .of_eq hg⟩
    refine codeAny_mono ((F _ hKb (nsK hns)).run callerA [] s₁ H ⟨[.ref a], []⟩ [.ref a] [.ref a] _ _ hr e0 (hbind s₁ (.ref a)) (.cons rfl .nil) (hsp H hO hS)) fun r s' h => ?_
    cases r with
    | error e => exact (hCX H e s' h).elim
    | ok fl =>
      cases fl with
      | next => exact False.elim h
      | brk => exact False.elim h
      | cont => exact False.elim h
      | ret u =>
        obtain ⟨v, H', os, bare, un, hok', r', q⟩ := h
        obtain ⟨l, ev, el⟩ : ∃ l, v = .ref l ∧ H' l = some (.lst (out.map V.int)) := q
        subst ev
        obtain rfl : u = Value.ref l := r'
        obtain ⟨_, its, n, rv', el'⟩ := hok' l _ el
        refine ⟨⟨l, its, n, rfl, el', rv'.ints⟩, OldK.of_keep fun b o e => ?_, os, bare⟩
        cases q : H b with
        | none => exact un.keep b o e q (by intro z; exact absurd (show b ∈ ([] : List Addr) from z) (by simp)) (by simp)
        | some u =>
          rcases hO b with z | ⟨ob, xs, z⟩
          · rw [q] at z; cases z
          · have z2 := un.frzs b ob _ z
            obtain ⟨e1, _⟩ := hok b _ z
            obtain ⟨e2, _⟩ := hok' b _ z2
            rw [e] at e1; cases e1
            exact e2
  cases hk : K.lookup a with
  | some o =>
    have e := KX a o hk
    rw [ha] at e
    cases e
    refine core (fun _ => none) (fun _ => .inl rfl) (.inr ⟨_, vs.toArray, _, hk, rfl, rfl, rfl, by rw [List.size_toArray, lenV]; exact hl, by simpa using rv⟩) (fun b u z => by have z' : (none : Option HO) = some u := z; cases z') (fun b z => absurd rfl z) fun z => absurd rfl z
  | none =>
    refine core (fun b => if b = a then some (.frz { cls := .type "list", data := .seq vs.toArray } (.lst (ns.map V.int))) else none) (fun b => ?_) (.inl (.inr ⟨{ cls := .type "list", data := .seq vs.toArray }, if_pos rfl⟩)) (fun b u z => ?_) (fun b z => ?_) fun _ => hk
    · by_cases hb : b = a
      · exact .inr ⟨_, _, if_pos hb⟩
      · exact .inl (if_neg hb)
    · by_cases hb : b = a
      · have z' := (if_pos hb).symm.trans z
        cases z'
        subst hb
        exact ⟨ha, by rw [List.length_map]; exact hl, vs, _, rv, ha⟩
      · have z' := (if_neg hb).symm.trans z
        cases z'
    · by_cases hb : b = a
      · exact hb
      · exact absurd (if_neg hb) z
end L2
namespace L2
open PySem PySem.W PySem.Calls PyProof.Rows
theorem reads_ints {R : WRecords} {cl : Str → Option Addr} {h : Heap} : ∀ {vs : List Value} {ns : List Int}, IntsAre vs ns → ∃ as, ReadsAllW R cl h vs (ns.map WData.int) as
  | _, _, .nil => ⟨[], .nil⟩
  | _, _, .cons n t r => by
    obtain ⟨as, q⟩ := reads_ints (R := R) (cl := cl) (h := h) r
    exact ⟨[] ++ as, .cons (.int n t) q⟩
theorem within_ints {lo hi : Int} {least most : Nat} {ns : List Int} (h : Codec.within (.list least most (.int lo hi)) ns = true) : least ≤ ns.length ∧ ns.length ≤ most ∧ ∀ x ∈ ns, lo ≤ x ∧ x ≤ hi := by
  have h' : (Codec.inLen least most ns && ns.all (Codec.inInt lo hi)) = true := h
  rw [Bool.and_eq_true] at h'
  obtain ⟨h1, h2⟩ := h'
  have h1' : (decide (least ≤ ns.length) && decide (ns.length ≤ most)) = true := h1
  rw [Bool.and_eq_true] at h1'
  refine ⟨of_decide_eq_true h1'.1, of_decide_eq_true h1'.2, fun x hx => ?_⟩
  have h3 := List.all_eq_true.mp h2 x hx
  have h3' : (decide (lo ≤ x) && decide (x ≤ hi)) = true := h3
  rw [Bool.and_eq_true] at h3'
  exact ⟨of_decide_eq_true h3'.1, of_decide_eq_true h3'.2⟩
theorem attach_spec {prog : Program} {name : Str} {lo hi lo2 hi2 : Int} {least most least2 most2 : Nat} {asked : List Int → Bool} {f : List Int → List Int} {q : Program} {loose : List Str} {XP : (Str → Option Value) → Heap → Prop} {YP : World → Heap → Prop} {d : DefRec}
    (said : (OpenSpec.mk prog name [.list least most (.int lo hi)] (.list least2 most2 (.int lo2 hi2)) asked f).wellSaid = true) (hdf : d.params.defaults = [])
    (call : ∀ (w : World) (s₀ s₁ : Shared) (mg mb : Str → Option Value) (fa : Addr) (o : Obj) (pm cd doc : Value) (a : Addr) (vs : List Value) (ns : List Int),
      Ground q loose [] XP w s₀ mg mb s₁.heap → YP w s₁.heap →
      s₁.heap.get? fa = some o → o.data = .func (docDef d.name d.params d.body d.scope pm cd doc) → s₁.heap.CodeRec cd d.name → mg d.name = some (.ref fa) →
      s₁.heap.get? a = some { cls := .type "list", data := .seq vs.toArray } → IntsAre vs ns → least ≤ ns.length → ns.length ≤ most → (∀ x ∈ ns, lo ≤ x ∧ x ≤ hi) → asked ns = true → s₁.gens = #[] →
      codeAny (model prog w) callerA (.call (.ref fa) ⟨[.ref a], []⟩) (fun r s' => (∃ l its n, r = .ok (.ret (.ref l)) ∧ s'.heap.get? l = some { cls := .type "list", data := .seq its.toArray n } ∧ IntsAre its (f ns)) ∧ OldK s₁.heap s'.heap ∧ s'.os = s₁.os ∧ AllBare s'.gens) s₁) :
    WalkOS q loose XP YP (OpenSpec.mk prog name [.list least most (.int lo hi)] (.list least2 most2 (.int lo2 hi2)) asked f) d [] (fun f vs => PySem.call f vs) := by
  intro w s₀ s₁ mg mb G Y fa o pm cd doc dV kV ho hd hcd hD hmg hg args vals as hpre hlay hrd hwl hlo
  obtain rfl : dV = .none := Dflts.none hD hdf
  obtain rfl : kV = .none := Dflts.noKw hD
  obtain ⟨x0, hw0, hask, rfl⟩ := (OpenSpec.pre_iff said args).mp hpre
  obtain ⟨ns, u⟩ := x0
  have hw1 : (Codec.within (.list least most (.int lo hi)) ns && Codec.withinAll [] u) = true := hw0
  obtain ⟨n1, n2, n3⟩ := within_ints (Bool.and_eq_true_iff.mp hw1).1
  have hask' : asked ns = true := hask
  have hwl' : WellAll w.params s₁.heap vals [WData.list (ns.map WData.int)] := hwl
  obtain ⟨a, vs, rfl, hobj, hints⟩ : ∃ a vs, vals = [Value.ref a] ∧ s₁.heap.get? a = some { cls := .type "list", data := .seq vs.toArray } ∧ IntsAre vs ns := by
    cases hwl' with
    | cons w1 w2 =>
      cases w2
      cases w1 with
      | list ho hall => exact ⟨_, _, rfl, ho, Att.ints_of_wellAll ns _ hall⟩
  refine enter_call (codeAny_mono (call w s₀ s₁ mg mb fa o pm cd doc a vs ns G Y ho (fd_plain hd) hcd hmg hobj hints n1 n2 n3 hask' hg) fun r s' hq => ?_)
  obtain ⟨⟨l, its, n, rfl, hl, hi⟩, h2, h3, h4⟩ := hq
  obtain ⟨bs, hb⟩ := reads_ints (R := []) (cl := classAt s₀.heap) (h := s'.heap) hi
  exact ⟨.inl ⟨.ref l, .list ((f ns).map WData.int), l :: bs, rfl, fun _ => rfl, .list hl rfl rfl hb, (OpenSpec.post_iff said hw0 _ _).mpr rfl, fun z => absurd z Bool.false_ne_true⟩, h2, h3, h4⟩
theorem walk_spec {prog : Program} {name : Str} {lo hi lo2 hi2 : Int} {least most least2 most2 k : Nat} {asked : List Int → Bool} {f : List Int → List Int} {q : Program} {loose : List Str} {XP : (Str → Option Value) → Heap → Prop} {YP : World → Heap → Prop} {d : DefRec} {K : Params → PySem.W.Frag} {sp : PySem.W.Frag → Sp} {x : Str}
    (said : (OpenSpec.mk prog name [.list least most (.int lo hi)] (.list least2 most2 (.int lo2 hi2)) asked f).wellSaid = true) (hn2 : most ≤ sizeLine) (hdf : d.params.defaults = []) (hr : Room k callerA)
    (hY : ∀ (w : World) (h : Heap), YP w h → (K w.params).In h)
    (F : ∀ (w : World) (mg : Str → Option Value) (fa : Addr) (h : Heap), (K w.params).In h → h.Ns mainGlobals mg → mg d.name = some (.ref fa) →
      ∃ fd : FuncData, (∀ (s : Shared) (u : Value), BindsTo s fd ⟨[u], []⟩ [(x, u)]) ∧
        ∀ base : Heap, (K w.params).In base → base.Ns mainGlobals mg → FnOk prog w (K w.params) mg base CX0 k fa fd [x] (sp (K w.params)))
    (hsp : ∀ (K : PySem.W.Frag) (H : Hp) (a : Addr) (ns : List Int), ns.length ≤ most → (∀ x ∈ ns, lo ≤ x ∧ x ≤ hi) → asked ns = true → Only H → SqL K H a (ns.map V.int) → sp K [.ref a] H (fun v H' => ∃ l, v = .ref l ∧ H' l = some (.lst ((f ns).map V.int))) fun _ _ _ => False) :
    WalkOS q loose XP YP (OpenSpec.mk prog name [.list least most (.int lo hi)] (.list least2 most2 (.int lo2 hi2)) asked f) d [] (fun f vs => PySem.call f vs) := by
  refine attach_spec said hdf fun w s₀ s₁ mg mb fa o pm cd doc a vs ns G Y ho hd hcd hmg hobj hints n1 n2 n3 hask hg => ?_
  have KX := hY w _ Y
  obtain ⟨fd, hb, hF⟩ := F w mg fa _ KX G.T.g hmg
  exact spec_call KX G.T.g G.T.b G.T.builtins G.T.nolimit hg hobj hints (Nat.le_trans n2 hn2) hr hF hb (fun H hO hS => hsp _ H a ns n2 n3 hask hO hS) fun H e s' z => z
end L2
end
section
namespace Fd
open PySem L2 Sw55
inductive Role where
  | out | data | srv | dict | row | wants | guest (k : Nat) | wait (k : Nat) | work (k : Nat) | req (k id : Nat)
  deriving DecidableEq
abbrev Own := Addr → Role
def setR (o : Own) (a : Addr) (r : Role) : Own := fun b => if b = a then r else o b
theorem setR_same {o : Own} {a : Addr} {r : Role} : setR o a r a = r := if_pos rfl
theorem setR_ne {o : Own} {a b : Addr} {r : Role} (h : b ≠ a) : setR o a r b = o b := if_neg h
theorem ne_role {o : Own} {a b : Addr} {r t : Role} (h : o a = r) (k : o b = t) (d : r ≠ t) : a ≠ b := fun e => d (by rw [← h, ← k, e])
def Role.of : Role → Option Nat
  | .guest k => some k
  | .wait k => some k
  | .work k => some k
  | .req k _ => some k
  | _ => none
structure Cl where
  CS : Addr
  CG : Addr
  CR : Addr
  CU : Addr
def nv (n : Nat) : V := .int (n : Int)
def sf (rules : V) (now : Nat) (d r : Addr) (ending : Bool) (ge taken answered told : Nat) (w : Addr) : List (Str × V) :=
  [("rules", rules), ("now", nv now), ("inside", .ref d), ("row", .ref r), ("ending", .bl ending), ("grace_end", nv ge), ("taken", nv taken), ("answered", nv answered), ("told_off", nv told), ("wants", .ref w)]
def gf (address weight credit : Nat) (wa ka : Addr) (heard chances looked : Nat) : List (Str × V) :=
  [("address", nv address), ("weight", nv weight), ("credit", nv credit), ("waiting", .ref wa), ("working", .ref ka), ("heard_at", nv heard), ("chances", nv chances), ("looked_at", nv looked)]
def qf (number cost : Nat) (data : Addr) (since : Nat) : List (Str × V) :=
  [("number", nv number), ("cost", nv cost), ("data", .ref data), ("since", nv since)]
def uf (r : Rules) : List (Str × V) :=
  [("most", nv r.most), ("each", nv r.each), ("work", nv r.work), ("wait", nv r.wait), ("idle", nv r.idle), ("limit", nv r.limit), ("rate", nv r.rate), ("burst", nv r.burst)]
structure GA where
  k : Nat
  a : Addr
  wa : Addr
  ka : Addr
  wq : List Addr
  kq : List Addr
structure SA where
  p : Addr
  u : Addr
  d : Addr
  r : Addr
  w : Addr
  gs : List GA
  ws : List Addr
section
variable (c : Cl) (o : Own) (H : Hp)
structure WaitAt (k : Nat) (a : Addr) (q : Req) : Prop where
  ob : ∃ dx da, H a = some (.ins c.CR dx (qf q.id q.cost da q.since)) ∧ H da = some (.lst (q.bytes.map nv)) ∧ o da = .data
  ro : o a = .req k q.id
  sz : q.bytes.length ≤ 100000
structure WorkAt (k : Nat) (a : Addr) (w : Nat × Nat) : Prop where
  ob : ∃ dx cost da, H a = some (.ins c.CR dx (qf w.1 cost da w.2))
  ro : o a = .req k w.1
def Lvl (ro : Option Rules) (now : Nat) (x : Conn) (ch lo : Nat) : Prop :=
  lo ≤ now ∧ ∀ r, ro = some r → ∀ n, now ≤ n → min (1000 * r.burst) (ch + r.rate * (n - lo)) = x.filled r n
structure GuestAt (ro : Option Rules) (now : Nat) (g : GA) (x : Conn) : Prop where
  nm : g.k = x.number
  ob : ∃ dx ch lo, H g.a = some (.ins c.CG dx (gf x.from_ x.weight x.credit g.wa g.ka x.heard ch lo)) ∧ Lvl ro now x ch lo
  oa : o g.a = .guest x.number
  wl : H g.wa = some (.lst (g.wq.map V.ref))
  ow : o g.wa = .wait x.number
  kl : H g.ka = some (.lst (g.kq.map V.ref))
  ok : o g.ka = .work x.number
  wr : Paired (WaitAt c o H x.number) g.wq x.waiting
  kr : Paired (WorkAt c o H x.number) g.kq x.working
def rv (s : Server) (u : Addr) : V := match s.rules with
  | none => .non
  | some _ => .ref u
def dictOf (gs : List GA) : List (Key × V) := gs.map fun g => (Sum.inl (g.k : Int), V.ref g.a)
structure Rep (A : SA) (s : Server) (W : List Want) : Prop where
  dom : ∀ b, o b ≠ .out → H b ≠ none
  sv : ∃ dx ge, H A.p = some (.ins c.CS dx (sf (rv s A.u) s.now A.d A.r s.ends.isSome ge s.asked s.answered s.refused A.w)) ∧ ∀ e, s.ends = some e → ge = e
  os : o A.p = .srv
  ru : ∀ r, s.rules = some r → (∃ dx, H A.u = some (.ins c.CU dx (uf r))) ∧ o A.u = .data
  di : H A.d = some (.dK (dictOf A.gs))
  od : o A.d = .dict
  rl : H A.r = some (.lst (s.row.map nv))
  orow : o A.r = .row
  wl : H A.w = some (.lst (A.ws.map V.ref))
  ow : o A.w = .wants
  ws : Paired (fun a w => H a = some (.lst (w.numbers.map nv)) ∧ o a = .data) A.ws W
  ky : (A.gs.map (·.k)).Perm (s.conns.map (·.number))
  gu : ∀ g ∈ A.gs, ∃ x ∈ s.conns, GuestAt c o H s.rules s.now g x
end
def Ext (o : Own) (H : Hp) (o' : Own) (H' : Hp) : Prop := ∀ b u, H b = some u → o b = .out ∨ o b = .data → H' b = some u ∧ o' b = o b
theorem Ext.refl (o : Own) (H : Hp) : Ext o H o H := fun _ _ h _ => ⟨h, rfl⟩
theorem Ext.trans {o o1 o2 : Own} {H H1 H2 : Hp} (a : Ext o H o1 H1) (b : Ext o1 H1 o2 H2) : Ext o H o2 H2 := fun x u h z => by
  obtain ⟨h1, e1⟩ := a x u h z
  obtain ⟨h2, e2⟩ := b x u h1 (by rw [e1]; exact z)
  exact ⟨h2, e2.trans e1⟩
theorem paired_imp {α β : Type} {F G : α → β → Prop} : ∀ {l : List α} {m : List β}, Paired F l m → (∀ a b, a ∈ l → b ∈ m → F a b → G a b) → Paired G l m
  | _, _, .nil, _ => .nil
  | _, _, .cons r t, f => .cons (f _ _ List.mem_cons_self List.mem_cons_self r) (paired_imp t fun a b ha hb => f a b (List.mem_cons_of_mem _ ha) (List.mem_cons_of_mem _ hb))
section
variable {c : Cl} {o o' : Own} {H H' : Hp}
theorem WaitAt.keep {k : Nat} {a : Addr} {q : Req} (h : WaitAt c o H k a q) (f : ∀ b u, H b = some u → (o b).of = some k ∨ o b = .data → H' b = some u ∧ o' b = o b) : WaitAt c o' H' k a q := by
  obtain ⟨⟨dx, da, h1, h2, h3⟩, h4, h5⟩ := h
  obtain ⟨a1, a2⟩ := f a _ h1 (.inl (by rw [h4]; rfl))
  obtain ⟨b1, b2⟩ := f da _ h2 (.inr h3)
  exact ⟨⟨dx, da, a1, b1, b2.trans h3⟩, a2.trans h4, h5⟩
theorem WorkAt.keep {k : Nat} {a : Addr} {q : Nat × Nat} (h : WorkAt c o H k a q) (f : ∀ b u, H b = some u → (o b).of = some k ∨ o b = .data → H' b = some u ∧ o' b = o b) : WorkAt c o' H' k a q := by
  obtain ⟨⟨dx, cost, da, h1⟩, h4⟩ := h
  obtain ⟨a1, a2⟩ := f a _ h1 (.inl (by rw [h4]; rfl))
  exact ⟨⟨dx, cost, da, a1⟩, a2.trans h4⟩
theorem Lvl.later {ro : Option Rules} {now t : Nat} {x : Conn} {ch lo : Nat} (h : Lvl ro now x ch lo) (ht : now ≤ t) : Lvl ro t x ch lo := ⟨Nat.le_trans h.1 ht, fun r hr n hn => h.2 r hr n (Nat.le_trans ht hn)⟩
theorem GuestAt.keep {ro : Option Rules} {now t : Nat} {g : GA} {x : Conn} (h : GuestAt c o H ro now g x) (ht : now ≤ t) (f : ∀ b u, H b = some u → (o b).of = some x.number ∨ o b = .data → H' b = some u ∧ o' b = o b) : GuestAt c o' H' ro t g x := by
  obtain ⟨dx, ch, lo, h1, h2⟩ := h.ob
  obtain ⟨a1, a2⟩ := f _ _ h1 (.inl (by rw [h.oa]; rfl))
  obtain ⟨b1, b2⟩ := f _ _ h.wl (.inl (by rw [h.ow]; rfl))
  obtain ⟨d1, d2⟩ := f _ _ h.kl (.inl (by rw [h.ok]; rfl))
  exact ⟨h.nm, ⟨dx, ch, lo, a1, h2.later ht⟩, a2.trans h.oa, b1, b2.trans h.ow, d1, d2.trans h.ok, paired_imp h.wr fun a b _ _ z => z.keep f, paired_imp h.kr fun a b _ _ z => z.keep f⟩
end
section
variable {c : Cl} {o o' : Own} {H H' : Hp} {A : SA} {s : Server} {W : List Want}
theorem Rep.free (h : Rep c o H A s W) {x : Addr} (e : H x = none) : o x = .out := by
  cases z : o x with
  | out => rfl
  | _ => exact absurd e (h.dom x (by rw [z]; intro q; cases q))
theorem Rep.keep (h : Rep c o H A s W) (f : ∀ b u, H b = some u → o b ≠ .out → H' b = some u ∧ o' b = o b) (d : ∀ b, o' b ≠ .out → H' b ≠ none) : Rep c o' H' A s W := by
  obtain ⟨dx, ge, h1, h2⟩ := h.sv
  have no : ∀ {b : Addr} {r : Role}, o b = r → r ≠ .out → o b ≠ .out := fun e n => by rw [e]; exact n
  obtain ⟨a1, a2⟩ := f _ _ h1 (no h.os (by intro q; cases q))
  obtain ⟨b1, b2⟩ := f _ _ h.di (no h.od (by intro q; cases q))
  obtain ⟨c1, c2⟩ := f _ _ h.rl (no h.orow (by intro q; cases q))
  obtain ⟨d1, d2⟩ := f _ _ h.wl (no h.ow (by intro q; cases q))
  refine ⟨d, ⟨dx, ge, a1, h2⟩, a2.trans h.os, fun r hr => ?_, b1, b2.trans h.od, c1, c2.trans h.orow, d1, d2.trans h.ow, paired_imp h.ws fun a w _ _ z => ?_, h.ky, fun g hg => ?_⟩
  · obtain ⟨⟨dy, e1⟩, e2⟩ := h.ru r hr
    obtain ⟨e3, e4⟩ := f _ _ e1 (no e2 (by intro q; cases q))
    exact ⟨⟨dy, e3⟩, e4.trans e2⟩
  · obtain ⟨e3, e4⟩ := f _ _ z.1 (no z.2 (by intro q; cases q))
    exact ⟨e3, e4.trans z.2⟩
  · obtain ⟨x, hx, z⟩ := h.gu g hg
    refine ⟨x, hx, z.keep (Nat.le_refl _) fun b u e q => f b u e ?_⟩
    rcases q with q | q
    · intro w; rw [w] at q; cases q
    · rw [q]; intro w; cases w
theorem Rep.upd_out (h : Rep c o H A s W) {x : Addr} {u : HO} (e : o x = .out) : Rep c o (upd H x u) A s W :=
  h.keep (fun b v hb n => ⟨by rw [upd_ne (fun z => n (by rw [z]; exact e))]; exact hb, rfl⟩) fun b n => by
    by_cases z : b = x
    · subst z; exact absurd e n
    · rw [upd_ne z]; exact h.dom b n
theorem Rep.to_data (h : Rep c o H A s W) {x : Addr} {u : HO} (e : o x = .out) (hx : H x = some u) : Rep c (setR o x .data) H A s W :=
  h.keep (fun b v hb n => ⟨hb, setR_ne fun z => n (by rw [z]; exact e)⟩) fun b n => by
    by_cases z : b = x
    · subst z; rw [hx]; intro q; cases q
    · rw [setR_ne z] at n; exact h.dom b n
theorem mem_dictOf {gs : List GA} {g : GA} (h : g ∈ gs) (nd : (gs.map (·.k)).Nodup) : valV (dictOf gs) (Sum.inl (g.k : Int)) = some (V.ref g.a) := by
  induction gs with
  | nil => cases h
  | cons y r ih =>
    obtain ⟨n1, n2⟩ := List.nodup_cons.mp nd
    show valV ((Sum.inl (y.k : Int), V.ref y.a) :: dictOf r) _ = _
    rcases List.mem_cons.mp h with e | e
    · subst e; exact valV_pos rfl
    · have ne : y.k ≠ g.k := fun z => n1 (by show y.k ∈ _; rw [z]; exact List.mem_map_of_mem e)
      rw [valV_neg (fun z => ne (by have := Sum.inl.inj z; omega))]
      exact ih e n2
theorem not_dictOf {gs : List GA} {k : Nat} (h : ¬ k ∈ gs.map (·.k)) : valV (dictOf gs) (Sum.inl (k : Int)) = none := by
  induction gs with
  | nil => rfl
  | cons y r ih =>
    show valV ((Sum.inl (y.k : Int), V.ref y.a) :: dictOf r) _ = _
    have ne : ¬ (Sum.inl (y.k : Int) : Key) = Sum.inl (k : Int) := fun z => h (by
      have z1 : (y.k : Int) = (k : Int) := Sum.inl.inj z
      have z2 : y.k = k := by omega
      rw [← z2]; exact List.mem_cons_self)
    rw [valV_neg ne]
    exact ih fun z => h (List.mem_cons_of_mem _ z)
theorem Rep.nd (h : Rep c o H A s W) (hs : Srt s.conns) : (A.gs.map (·.k)).Nodup :=
  h.ky.nodup_iff.mpr ((srt_numbers.mp hs).imp fun z => Nat.ne_of_lt z)
theorem Rep.look (h : Rep c o H A s W) (hs : Srt s.conns) {x : Conn} (hx : x ∈ s.conns) : ∃ g ∈ A.gs, GuestAt c o H s.rules s.now g x ∧ valV (dictOf A.gs) (Sum.inl (x.number : Int)) = some (V.ref g.a) := by
  have hm : x.number ∈ A.gs.map (·.k) := h.ky.mem_iff.mpr (List.mem_map_of_mem hx)
  obtain ⟨g, hg, e⟩ := List.mem_map.mp hm
  obtain ⟨y, hy, z⟩ := h.gu g hg
  have : y = x := srt_inj hs hy hx (z.nm.symm.trans e)
  subst this
  exact ⟨g, hg, z, by rw [← e]; exact mem_dictOf hg (h.nd hs)⟩
theorem Rep.look_none (h : Rep c o H A s W) {k : Nat} (hk : pick s.conns k = none) : valV (dictOf A.gs) (Sum.inl (k : Int)) = none := by
  refine not_dictOf fun z => ?_
  obtain ⟨x, hx, e⟩ := List.mem_map.mp (h.ky.mem_iff.mp z)
  exact pick_none hk x hx e
theorem Rep.guest (h : Rep c o H A s W) (hs : Srt s.conns) {g g' : GA} {x x' : Conn} (hg : g ∈ A.gs) (hx : x ∈ s.conns) (z : GuestAt c o H s.rules s.now g x) (en : x'.number = x.number) (ea : g'.a = g.a)
    (f : ∀ b u, H b = some u → o b ≠ .out → (o b).of ≠ some x.number → H' b = some u ∧ o' b = o b) (d : ∀ b, o' b ≠ .out → H' b ≠ none) (new : GuestAt c o' H' s.rules s.now g' x') :
    Rep c o' H' { A with gs := A.gs.map fun y => if y.k = g.k then g' else y } (s.with_ x') W := by
  have ek : g'.k = g.k := by rw [new.nm, en, z.nm]
  have no : ∀ {b : Addr} {r : Role}, o b = r → r ≠ .out → r.of = none → o b ≠ .out ∧ (o b).of ≠ some x.number := fun e n q => by rw [e]; exact ⟨n, by rw [q]; intro w; cases w⟩
  obtain ⟨dx, ge, h1, h2⟩ := h.sv
  have k1 := no h.os (by intro q; cases q) rfl
  have k2 := no h.od (by intro q; cases q) rfl
  have k3 := no h.orow (by intro q; cases q) rfl
  have k4 := no h.ow (by intro q; cases q) rfl
  obtain ⟨a1, a2⟩ := f _ _ h1 k1.1 k1.2
  obtain ⟨b1, b2⟩ := f _ _ h.di k2.1 k2.2
  obtain ⟨c1, c2⟩ := f _ _ h.rl k3.1 k3.2
  obtain ⟨d1, d2⟩ := f _ _ h.wl k4.1 k4.2
  have em : (A.gs.map fun y => if y.k = g.k then g' else y).map (·.k) = A.gs.map (·.k) := by
    rw [List.map_map]
    apply List.map_congr_left
    intro y _
    show (if y.k = g.k then g' else y).k = y.k
    split
    · rename_i q; rw [ek, q]
    · rfl
  have nd := h.nd hs
  have inj : ∀ y ∈ A.gs, y.k = g.k → y = g := by
    intro y hy e
    have key : ∀ {l : List GA}, (l.map (·.k)).Nodup → y ∈ l → g ∈ l → y = g := by
      intro l
      induction l with
      | nil => intro _ q; cases q
      | cons v r ih =>
        intro n p q
        obtain ⟨n1, n2⟩ := List.nodup_cons.mp n
        rcases List.mem_cons.mp p with p1 | p1
        · rcases List.mem_cons.mp q with q1 | q1
          · rw [p1, q1]
          · exact absurd (by show v.k ∈ _; rw [← p1, e]; exact List.mem_map_of_mem q1) n1
        · rcases List.mem_cons.mp q with q1 | q1
          · exact absurd (by show v.k ∈ _; rw [← q1, ← e]; exact List.mem_map_of_mem p1) n1
          · exact ih n2 p1 q1
    exact key nd hy hg
  have ed : dictOf (A.gs.map fun y => if y.k = g.k then g' else y) = dictOf A.gs := by
    unfold dictOf
    rw [List.map_map]
    apply List.map_congr_left
    intro y hy
    show (Sum.inl (((if y.k = g.k then g' else y).k : Nat) : Int), V.ref (if y.k = g.k then g' else y).a) = (Sum.inl (y.k : Int), V.ref y.a)
    split
    · rename_i q; rw [inj y hy q, ek, ea]
    · rfl
  refine ⟨d, ⟨dx, ge, a1, h2⟩, a2.trans h.os, fun r hr => ?_, ?_, b2.trans h.od, c1, c2.trans h.orow, d1, d2.trans h.ow, paired_imp h.ws fun a w _ _ q => ?_, ?_, fun y hy => ?_⟩
  · obtain ⟨⟨dy, e1⟩, e2⟩ := h.ru r hr
    have k := no e2 (by intro q; cases q) rfl
    obtain ⟨e3, e4⟩ := f _ _ e1 k.1 k.2
    exact ⟨⟨dy, e3⟩, e4.trans e2⟩
  · show H' A.d = some (.dK (dictOf (A.gs.map fun y => if y.k = g.k then g' else y)))
    rw [ed]; exact b1
  · have k := no q.2 (by intro w; cases w) rfl
    obtain ⟨e3, e4⟩ := f _ _ q.1 k.1 k.2
    exact ⟨e3, e4.trans q.2⟩
  · show ((A.gs.map fun y => if y.k = g.k then g' else y).map (·.k)).Perm ((repl x' s.conns).map (·.number))
    rw [em, repl_numbers]
    exact h.ky
  · obtain ⟨v, hv, e⟩ := List.mem_map.mp hy
    by_cases q : v.k = g.k
    · rw [if_pos q] at e
      subst e
      exact ⟨x', mem_repl.mpr (.inr ⟨rfl, x, hx, en.symm⟩), new⟩
    · rw [if_neg q] at e
      subst e
      obtain ⟨w, hw, zw⟩ := h.gu v hv
      have nw : w.number ≠ x.number := fun e => q (by rw [zw.nm, e, z.nm])
      refine ⟨w, mem_repl.mpr (.inl ⟨hw, by rw [en]; exact nw⟩), zw.keep (Nat.le_refl _) fun b u hb q => f b u hb ?_ ?_⟩
      · rcases q with q | q
        · intro e; rw [e] at q; cases q
        · rw [q]; intro e; cases e
      · rcases q with q | q
        · rw [q]; intro e; exact nw (Option.some.inj e)
        · rw [q]; intro e; cases e
end
end Fd
end
section
namespace Fd
open PySem L2 Sw55
def Grow (H H' : Hp) : Prop := ∀ b u, H b = some u → H' b = some u
theorem Grow.trans {H H1 H2 : Hp} (a : Grow H H1) (b : Grow H1 H2) : Grow H H2 := fun x u h => b x u (a x u h)
theorem Grow.new {H : Hp} {x : Addr} {u : HO} (h : H x = none) : Grow H (upd H x u) := fun b v e => by rw [upd_ne (ne_of_none e h)]; exact e
theorem Grow.none {H H' : Hp} (g : Grow H H') {x : Addr} (h : H' x = none) : H x = none := by
  cases e : H x with
  | none => rfl
  | some u => rw [g x u e] at h; cases h
theorem Grow.ext {o : Own} {H H' : Hp} (g : Grow H H') : Ext o H o H' := fun b u h _ => ⟨g b u h, rfl⟩
theorem upd_dom {H : Hp} {x b : Addr} {u : HO} (h : H b ≠ none) : upd H x u b ≠ none := by
  by_cases e : b = x
  · rw [e, upd_same]; intro q; cases q
  · rw [upd_ne e]; exact h
theorem nodup_of_map {α β : Type} {f : α → β} {l : List α} (h : (l.map f).Nodup) : l.Nodup := (List.pairwise_map.mp h).imp fun z e => z (by rw [e])
theorem perm_sum {l m : List Nat} (h : l.Perm m) : l.sum = m.sum := by
  induction h with
  | nil => rfl
  | cons x _ ih => rw [List.sum_cons, List.sum_cons, ih]
  | swap x y l => simp only [List.sum_cons]; omega
  | trans _ _ a b => exact a.trans b
theorem perm_of_numbers {l m : List Conn} (hm : Srt m) (sub : ∀ x ∈ l, x ∈ m) (p : (l.map (·.number)).Perm (m.map (·.number))) : l.Perm m := by
  have nm : (m.map (·.number)).Nodup := (srt_numbers.mp hm).imp fun z => Nat.ne_of_lt z
  have nl : (l.map (·.number)).Nodup := p.nodup_iff.mpr nm
  refine (List.perm_ext_iff_of_nodup (nodup_of_map nl) (nodup_of_map nm)).mpr fun x => ⟨sub x, fun hx => ?_⟩
  obtain ⟨y, hy, e⟩ := List.mem_map.mp (p.mem_iff.mpr (List.mem_map_of_mem hx))
  have := srt_inj hm (sub y hy) hx e
  rw [← this]; exact hy
theorem paired_map {α β γ : Type} {F : α → β → Prop} {f : α → γ} {g : β → γ} : ∀ {l : List α} {m : List β}, Paired F l m → (∀ a b, F a b → f a = g b) → l.map f = m.map g
  | _, _, .nil, _ => rfl
  | _, _, .cons r t, k => by rw [List.map_cons, List.map_cons, k _ _ r, paired_map t k]
theorem paired_filter {α β : Type} {F : α → β → Prop} {p : α → Bool} {q : β → Bool} : ∀ {l : List α} {m : List β}, Paired F l m → (∀ a b, F a b → p a = q b) → Paired F (l.filter p) (m.filter q)
  | _, _, .nil, _ => .nil
  | a :: _, b :: _, .cons r t, k => by
    rw [List.filter_cons, List.filter_cons, k a b r]
    split
    · exact .cons r (paired_filter t k)
    · exact paired_filter t k
section
variable {c : Cl} {o o' : Own} {H H' : Hp} {A : SA} {s : Server} {W : List Want}
theorem Rep.grow (h : Rep c o H A s W) (g : Grow H H') : Rep c o H' A s W :=
  h.keep (fun b u hb _ => ⟨g b u hb, rfl⟩) fun b n e => h.dom b n (g.none e)
theorem Rep.pairs (h : Rep c o H A s W) (hs : Srt s.conns) : ∃ xs, Paired (fun g x => GuestAt c o H s.rules s.now g x ∧ x ∈ s.conns) A.gs xs ∧ xs.Perm s.conns := by
  have key : ∀ {gs : List GA}, (∀ g ∈ gs, g ∈ A.gs) → ∃ xs, Paired (fun g x => GuestAt c o H s.rules s.now g x ∧ x ∈ s.conns) gs xs ∧ (∀ x ∈ xs, x ∈ s.conns) ∧ xs.map (·.number) = gs.map (·.k) := by
    intro gs
    induction gs with
    | nil => exact fun _ => ⟨[], .nil, (fun x (q : x ∈ []) => nomatch q), rfl⟩
    | cons g r ih =>
      intro q
      obtain ⟨xs, p1, p2, p3⟩ := ih fun y hy => q y (List.mem_cons_of_mem _ hy)
      obtain ⟨x, hx, z⟩ := h.gu g (q g List.mem_cons_self)
      refine ⟨x :: xs, .cons ⟨z, hx⟩ p1, fun y hy => ?_, by rw [List.map_cons, List.map_cons, p3, z.nm]⟩
      rcases List.mem_cons.mp hy with e | e
      · rw [e]; exact hx
      · exact p2 y e
  obtain ⟨xs, p1, p2, p3⟩ := key fun g hg => hg
  exact ⟨xs, p1, perm_of_numbers hs p2 (by rw [p3]; exact h.ky)⟩
theorem Rep.working (h : Rep c o H A s W) (hs : Srt s.conns) : (A.gs.map (·.kq.length)).sum = s.working := by
  obtain ⟨xs, p, q⟩ := h.pairs hs
  have e : A.gs.map (·.kq.length) = xs.map fun x => x.working.length := paired_map p fun g x z => z.1.kr.length
  rw [e]
  exact perm_sum (q.map _)
theorem Rep.waiting (h : Rep c o H A s W) (hs : Srt s.conns) : (A.gs.map (·.wq.length)).sum = s.waiting := by
  obtain ⟨xs, p, q⟩ := h.pairs hs
  have e : A.gs.map (·.wq.length) = xs.map fun x => x.waiting.length := paired_map p fun g x z => z.1.wr.length
  rw [e]
  exact perm_sum (q.map _)
def ofG (s : Server) (g : GA) : Option Conn := pick s.conns g.k
theorem Rep.ofG (h : Rep c o H A s W) (hs : Srt s.conns) {g : GA} (hg : g ∈ A.gs) : ∃ x ∈ s.conns, GuestAt c o H s.rules s.now g x ∧ Fd.ofG s g = some x := by
  obtain ⟨x, hx, z⟩ := h.gu g hg
  exact ⟨x, hx, z, by unfold Fd.ofG; rw [z.nm]; exact pick_of_mem hs hx⟩
theorem Rep.filter (h : Rep c o H A s W) (hs : Srt s.conns) (p : Conn → Bool) : (A.gs.filter fun g => ((Fd.ofG s g).map p).getD false).length = (s.conns.filter p).length := by
  obtain ⟨xs, q, r⟩ := h.pairs hs
  have e := paired_filter (p := fun g => ((Fd.ofG s g).map p).getD false) (q := p) q fun g x z => by
    have : Fd.ofG s g = some x := by unfold Fd.ofG; rw [z.1.nm]; exact pick_of_mem hs z.2
    rw [this]; rfl
  rw [e.length]
  exact (r.filter p).length_eq
theorem Rep.count (h : Rep c o H A s W) : A.gs.length = s.conns.length := by
  have := h.ky.length_eq
  simpa using this
def away (o : Own) (k : Nat) : Own := fun b => if (o b).of = some k then .out else o b
theorem away_ne {o : Own} {k : Nat} {b : Addr} (h : (o b).of ≠ some k) : away o k b = o b := if_neg h
theorem Rep.gone (h : Rep c o H A s W) {k : Nat} (f : ∀ b u, H b = some u → o b ≠ .dict → o b ≠ .row → H' b = some u) (dm : ∀ b, H b ≠ none → H' b ≠ none)
    (hd : H' A.d = some (.dK (dropK (dictOf A.gs) (Sum.inl (k : Int))))) (hr : H' A.r = some (.lst ((s.row.filter fun j => j != k).map nv))) :
    Rep c (away o k) H' { A with gs := A.gs.filter fun g => g.k != k } (s.without k) W := by
  have st : ∀ {b : Addr} {u : HO} {r : Role}, H b = some u → o b = r → r ≠ .dict → r ≠ .row → r.of ≠ some k → H' b = some u ∧ away o k b = r := fun hb e n1 n2 n3 =>
    ⟨f _ _ hb (by rw [e]; exact n1) (by rw [e]; exact n2), by rw [away_ne (by rw [e]; exact n3)]; exact e⟩
  obtain ⟨dx, ge, h1, h2⟩ := h.sv
  obtain ⟨a1, a2⟩ := st h1 h.os (by intro q; cases q) (by intro q; cases q) (by intro q; cases q)
  obtain ⟨b1, b2⟩ := st h.wl h.ow (by intro q; cases q) (by intro q; cases q) (by intro q; cases q)
  refine ⟨fun b n => ?_, ⟨dx, ge, a1, h2⟩, a2, fun r e => ?_, ?_, ?_, hr, ?_, b1, b2, paired_imp h.ws fun a w _ _ z => ?_, ?_, fun g hg => ?_⟩
  · refine dm b (h.dom b fun e => n ?_)
    unfold away
    rw [e]
    rfl
  · obtain ⟨⟨dy, e1⟩, e2⟩ := h.ru r e
    obtain ⟨e3, e4⟩ := st e1 e2 (by intro q; cases q) (by intro q; cases q) (by intro q; cases q)
    exact ⟨⟨dy, e3⟩, e4⟩
  · show H' A.d = some (.dK (dictOf (A.gs.filter fun g => g.k != k)))
    rw [hd]
    congr 2
    unfold dropK dictOf
    rw [List.filter_map]
    congr 1
    apply List.filter_congr
    intro g _
    show decide ((Sum.inl (g.k : Int) : Key) ≠ Sum.inl (k : Int)) = (g.k != k)
    by_cases e : g.k = k
    · simp [e]
    · have n : (Sum.inl (g.k : Int) : Key) ≠ Sum.inl (k : Int) := fun z => e (by have := Sum.inl.inj z; omega)
      rw [decide_eq_true n]
      simp [e]
  · rw [away_ne (by rw [h.od]; intro q; cases q)]; exact h.od
  · rw [away_ne (by rw [h.orow]; intro q; cases q)]; exact h.orow
  · obtain ⟨e3, e4⟩ := st z.1 z.2 (by intro q; cases q) (by intro q; cases q) (by intro q; cases q)
    exact ⟨e3, e4⟩
  · show ((A.gs.filter fun g => g.k != k).map (·.k)).Perm ((s.conns.filter fun d => d.number != k).map (·.number))
    have e1 : (A.gs.filter fun g => g.k != k).map (·.k) = (A.gs.map (·.k)).filter fun j => j != k := by rw [List.filter_map]; rfl
    have e2 : (s.conns.filter fun d => d.number != k).map (·.number) = (s.conns.map (·.number)).filter fun j => j != k := by rw [List.filter_map]; rfl
    rw [e1, e2]
    exact h.ky.filter _
  · obtain ⟨hg1, hg2⟩ := List.mem_filter.mp hg
    obtain ⟨x, hx, z⟩ := h.gu g hg1
    have nk : x.number ≠ k := by rw [← z.nm]; simpa using hg2
    refine ⟨x, List.mem_filter.mpr ⟨hx, by simpa using nk⟩, z.keep (Nat.le_refl _) fun b u hb q => ?_⟩
    have n1 : o b ≠ .dict := by intro e; rw [e] at q; rcases q with q | q <;> cases q
    have n2 : o b ≠ .row := by intro e; rw [e] at q; rcases q with q | q <;> cases q
    refine ⟨f b u hb n1 n2, away_ne ?_⟩
    rcases q with q | q
    · rw [q]; intro e; exact nk (Option.some.inj e)
    · rw [q]; intro e; cases e
theorem Rep.anew (h : Rep c o H A s W) {r : Rules} {u d rw' dx dy : Addr} {now : Nat} (hu : H' u = some (.ins c.CU dy (uf r))) (ou : o u = .data) (hd0 : H d = none) (hr0 : H rw' = none) (ne : d ≠ rw')
    (f : ∀ b v, H b = some v → b ≠ A.p → H' b = some v) (hp : H' A.p = some (.ins c.CS dx (sf (.ref u) now d rw' false 0 0 0 0 A.w))) (hd : H' d = some (.dK [])) (hr : H' rw' = some (.lst [])) :
    Rep c (setR (setR o d .dict) rw' .row) H' { A with u := u, d := d, r := rw', gs := [] } { rules := some r, now := now } W ∧ Ext o H (setR (setR o d .dict) rw' .row) H' := by
  have old : ∀ {b : Addr} {v : HO}, H b = some v → setR (setR o d .dict) rw' .row b = o b := fun hb => by
    rw [setR_ne (ne_of_none hb hr0), setR_ne (ne_of_none hb hd0)]
  obtain ⟨dz, ge, h1, h2⟩ := h.sv
  have nn : ∀ {b : Addr} {r1 : Role}, o b = r1 → r1 ≠ .srv → b ≠ A.p := fun e n q => n (by rw [← e, q]; exact h.os)
  refine ⟨⟨fun b n => ?_, ⟨dx, 0, hp, fun e q => nomatch q⟩, by rw [old h1]; exact h.os, fun r' e => ?_, hd, by rw [setR_ne ne]; exact setR_same, hr, setR_same, ?_, by rw [old h.wl]; exact h.ow, paired_imp h.ws fun a w _ _ z => ?_, .nil, fun g hg => nomatch hg⟩, fun b v hb q => ⟨f b v hb ?_, old hb⟩⟩
  · by_cases e1 : b = rw'
    · rw [e1, hr]; intro q; cases q
    · rw [setR_ne e1] at n
      by_cases e2 : b = d
      · rw [e2, hd]; intro q; cases q
      · rw [setR_ne e2] at n
        by_cases e3 : b = A.p
        · rw [e3, hp]; intro q; cases q
        · cases z : H b with
          | none => exact absurd z (h.dom b n)
          | some v => rw [f b v z e3]; intro q; cases q
  · cases e
    refine ⟨⟨dy, hu⟩, ?_⟩
    cases z : H u with
    | none => exact absurd z (h.dom u (by rw [ou]; intro q; cases q))
    | some v => rw [old z]; exact ou
  · exact f _ _ h.wl (nn h.ow (by intro q; cases q))
  · exact ⟨f _ _ z.1 (nn z.2 (by intro q; cases q)), by rw [old z.1]; exact z.2⟩
  · rcases q with q | q
    · exact nn q (by intro w; cases w)
    · exact nn q (by intro w; cases w)
end
end Fd
end
section
namespace Fd
open PySem L2
def top (i : Nat) : Stmt := PySem.Challenge.pw_fairdoor_s01_answers.main.body.getD i (.Pass ⟨0, 0, 0, 0⟩)
abbrev s_Request_init : Stmt := inClass (top 1) 0
abbrev s_Guest_init : Stmt := inClass (top 2) 0
abbrev s_is_quiet : Stmt := top 3
abbrev s_find_request : Stmt := top 4
abbrev s_without_request : Stmt := top 5
abbrev s_late_requests : Stmt := top 6
abbrev s_timely_requests : Stmt := top 7
abbrev s_refill_chances : Stmt := top 8
abbrev s_Rules_init : Stmt := inClass (top 24) 0
abbrev s_within : Stmt := top 25
abbrev s_time_fits : Stmt := top 26
abbrev s_rules_fit : Stmt := top 27
abbrev s_address_fits : Stmt := top 28
abbrev s_request_fits : Stmt := top 29
abbrev s_weight_fits : Stmt := top 30
abbrev s_grace_fits : Stmt := top 31
abbrev s_Server_init : Stmt := inClass (top 40) 0
abbrev s_set_anew : Stmt := top 41
abbrev s_want_start : Stmt := top 42
abbrev s_want_answer : Stmt := top 43
abbrev s_want_tell : Stmt := top 44
abbrev s_want_cancel : Stmt := top 45
abbrev s_want_close : Stmt := top 46
abbrev s_count_working : Stmt := top 47
abbrev s_count_waiting : Stmt := top 48
abbrev s_count_from : Stmt := top 49
abbrev s_least_free_number : Stmt := top 50
abbrev s_cancel_work : Stmt := top 51
abbrev s_send_away : Stmt := top 52
abbrev s_close_all_of : Stmt := top 53
abbrev s_go_on : Stmt := top 56
abbrev s_end_what_is_due : Stmt := top 57
abbrev s_settle : Stmt := top 58
abbrev s_drop_late : Stmt := top 59
abbrev s_drop_late_of : Stmt := top 60
abbrev s_quiet_numbers : Stmt := top 61
abbrev s_close_idle : Stmt := top 62
abbrev s_is_grace_over : Stmt := top 63
abbrev s_close_quiet_if_ending : Stmt := top 64
abbrev s_close_all_if_grace_over : Stmt := top 65
abbrev s_tidy_row : Stmt := top 66
abbrev s_take_turns : Stmt := top 67
abbrev s_start_first : Stmt := top 68
abbrev s_begin : Stmt := top 71
abbrev s_arrive : Stmt := top 72
abbrev s_refuses : Stmt := top 73
abbrev s_ask : Stmt := top 74
abbrev s_why_not_taken : Stmt := top 75
abbrev s_take : Stmt := top 76
abbrev s_answer : Stmt := top 77
abbrev s_drop : Stmt := top 78
abbrev s_leave : Stmt := top 79
abbrev s_hear : Stmt := top 80
abbrev s_weigh : Stmt := top 81
abbrev s_tick : Stmt := top 82
abbrev s_stop : Stmt := top 83
abbrev s_tell_due : Stmt := top 85
abbrev s_due_times : Stmt := top 86
abbrev s_late_times : Stmt := top 87
abbrev s_idle_times : Stmt := top 88
abbrev s_tell_counts : Stmt := top 89
abbrev s_tell_guest : Stmt := top 90
abbrev s_request_numbers : Stmt := top 91
abbrev s_answers : Stmt := top 106
abbrev s_answer_call : Stmt := top 107
abbrev s_tell : Stmt := top 108
abbrev s_serve : Stmt := top 109
abbrev s_steer : Stmt := top 110
abbrev s_read_rules : Stmt := top 111
set_option genInjectivity false in
set_option genSizeOf false in
structure Adr where
  CRequest : Addr
  CGuest : Addr
  CRules : Addr
  CServer : Addr
  fRequest_init : Addr
  dRequest_init : FuncData
  fGuest_init : Addr
  dGuest_init : FuncData
  fis_quiet : Addr
  dis_quiet : FuncData
  ffind_request : Addr
  dfind_request : FuncData
  fwithout_request : Addr
  dwithout_request : FuncData
  flate_requests : Addr
  dlate_requests : FuncData
  ftimely_requests : Addr
  dtimely_requests : FuncData
  frefill_chances : Addr
  drefill_chances : FuncData
  fRules_init : Addr
  dRules_init : FuncData
  fwithin : Addr
  dwithin : FuncData
  ftime_fits : Addr
  dtime_fits : FuncData
  frules_fit : Addr
  drules_fit : FuncData
  faddress_fits : Addr
  daddress_fits : FuncData
  frequest_fits : Addr
  drequest_fits : FuncData
  fweight_fits : Addr
  dweight_fits : FuncData
  fgrace_fits : Addr
  dgrace_fits : FuncData
  fServer_init : Addr
  dServer_init : FuncData
  fset_anew : Addr
  dset_anew : FuncData
  fwant_start : Addr
  dwant_start : FuncData
  fwant_answer : Addr
  dwant_answer : FuncData
  fwant_tell : Addr
  dwant_tell : FuncData
  fwant_cancel : Addr
  dwant_cancel : FuncData
  fwant_close : Addr
  dwant_close : FuncData
  fcount_working : Addr
  dcount_working : FuncData
  fcount_waiting : Addr
  dcount_waiting : FuncData
  fcount_from : Addr
  dcount_from : FuncData
  fleast_free_number : Addr
  dleast_free_number : FuncData
  fcancel_work : Addr
  dcancel_work : FuncData
  fsend_away : Addr
  dsend_away : FuncData
  fclose_all_of : Addr
  dclose_all_of : FuncData
  fgo_on : Addr
  dgo_on : FuncData
  fend_what_is_due : Addr
  dend_what_is_due : FuncData
  fsettle : Addr
  dsettle : FuncData
  fdrop_late : Addr
  ddrop_late : FuncData
  fdrop_late_of : Addr
  ddrop_late_of : FuncData
  fquiet_numbers : Addr
  dquiet_numbers : FuncData
  fclose_idle : Addr
  dclose_idle : FuncData
  fis_grace_over : Addr
  dis_grace_over : FuncData
  fclose_quiet_if_ending : Addr
  dclose_quiet_if_ending : FuncData
  fclose_all_if_grace_over : Addr
  dclose_all_if_grace_over : FuncData
  ftidy_row : Addr
  dtidy_row : FuncData
  ftake_turns : Addr
  dtake_turns : FuncData
  fstart_first : Addr
  dstart_first : FuncData
  fbegin : Addr
  dbegin : FuncData
  farrive : Addr
  darrive : FuncData
  frefuses : Addr
  drefuses : FuncData
  fask : Addr
  dask : FuncData
  fwhy_not_taken : Addr
  dwhy_not_taken : FuncData
  ftake : Addr
  dtake : FuncData
  fanswer : Addr
  danswer : FuncData
  fdrop : Addr
  ddrop : FuncData
  fleave : Addr
  dleave : FuncData
  fhear : Addr
  dhear : FuncData
  fweigh : Addr
  dweigh : FuncData
  ftick : Addr
  dtick : FuncData
  fstop : Addr
  dstop : FuncData
  ftell_due : Addr
  dtell_due : FuncData
  fdue_times : Addr
  ddue_times : FuncData
  flate_times : Addr
  dlate_times : FuncData
  fidle_times : Addr
  didle_times : FuncData
  ftell_counts : Addr
  dtell_counts : FuncData
  ftell_guest : Addr
  dtell_guest : FuncData
  frequest_numbers : Addr
  drequest_numbers : FuncData
  fanswers : Addr
  danswers : FuncData
  fanswer_call : Addr
  danswer_call : FuncData
  ftell : Addr
  dtell : FuncData
  fserve : Addr
  dserve : FuncData
  fsteer : Addr
  dsteer : FuncData
  fread_rules : Addr
  dread_rules : FuncData
  tOUT_OF_RANGE : Tok
  tNOBODY : Tok
  tHAS_IT_ALREADY : Tok
  tNO_RULES : Tok
  tNOT_WORKED_AT : Tok
  tFULL : Tok
  tADDRESS_FULL : Tok
  tIS_ENDING : Tok
  tLAST_TIME : Tok
  tLONGEST_SPAN : Tok
  tNUMBERS_END : Tok
  tMOST_COST : Tok
  tMOST_BYTES : Tok
  tMOST_WEIGHT : Tok
  tTELL_TOO_MANY : Tok
  tTELL_TOO_OFTEN : Tok
  tTELL_ENDING : Tok
  tTELL_TOO_LATE : Tok
  tCLOSE_IDLE : Tok
  tCLOSE_ENDING : Tok
  tCLOSE_GRACE_OVER : Tok
  tCREDIT_FOR_WEIGHT : Tok
  tONE_CHANCE : Tok
  tBEGIN : Tok
  tARRIVES : Tok
  tASKS : Tok
  tANSWERS : Tok
  tDROPS : Tok
  tLEAVES : Tok
  tWEIGHT : Tok
  tTICK : Tok
  tSTOP : Tok
  tDUE : Tok
  tTOLD : Tok
  tLOOK : Tok
  gNUMBERS_OF : Addr
set_option genInjectivity false in
set_option genSizeOf false in
structure Txt (K : PySem.W.Frag) (mg : Str → Option Value) (t : Adr) : Prop where
  clRequest : Cls K t.CRequest
  nRequest_number : NoAttr K t.CRequest "number"
  nRequest_cost : NoAttr K t.CRequest "cost"
  nRequest_data : NoAttr K t.CRequest "data"
  nRequest_since : NoAttr K t.CRequest "since"
  mRequest : mg "Request" = some (.ref t.CRequest)
  MRequest : Mk K t.CRequest t.fRequest_init
  clGuest : Cls K t.CGuest
  nGuest_address : NoAttr K t.CGuest "address"
  nGuest_weight : NoAttr K t.CGuest "weight"
  nGuest_credit : NoAttr K t.CGuest "credit"
  nGuest_waiting : NoAttr K t.CGuest "waiting"
  nGuest_working : NoAttr K t.CGuest "working"
  nGuest_heard_at : NoAttr K t.CGuest "heard_at"
  nGuest_chances : NoAttr K t.CGuest "chances"
  nGuest_looked_at : NoAttr K t.CGuest "looked_at"
  mGuest : mg "Guest" = some (.ref t.CGuest)
  MGuest : Mk K t.CGuest t.fGuest_init
  clRules : Cls K t.CRules
  nRules_most : NoAttr K t.CRules "most"
  nRules_each : NoAttr K t.CRules "each"
  nRules_work : NoAttr K t.CRules "work"
  nRules_wait : NoAttr K t.CRules "wait"
  nRules_idle : NoAttr K t.CRules "idle"
  nRules_limit : NoAttr K t.CRules "limit"
  nRules_rate : NoAttr K t.CRules "rate"
  nRules_burst : NoAttr K t.CRules "burst"
  mRules : mg "Rules" = some (.ref t.CRules)
  MRules : Mk K t.CRules t.fRules_init
  clServer : Cls K t.CServer
  nServer_rules : NoAttr K t.CServer "rules"
  nServer_now : NoAttr K t.CServer "now"
  nServer_inside : NoAttr K t.CServer "inside"
  nServer_row : NoAttr K t.CServer "row"
  nServer_ending : NoAttr K t.CServer "ending"
  nServer_grace_end : NoAttr K t.CServer "grace_end"
  nServer_taken : NoAttr K t.CServer "taken"
  nServer_answered : NoAttr K t.CServer "answered"
  nServer_told_off : NoAttr K t.CServer "told_off"
  nServer_wants : NoAttr K t.CServer "wants"
  mServer : mg "Server" = some (.ref t.CServer)
  MServer : Mk K t.CServer t.fServer_init
  FRequest_init : Fun K "__init__" "Request.__init__" s_Request_init t.fRequest_init t.dRequest_init
  bRequest_init : Binds K t.dRequest_init ["self", "number", "cost", "data", "since"] []
  FGuest_init : Fun K "__init__" "Guest.__init__" s_Guest_init t.fGuest_init t.dGuest_init
  bGuest_init : Binds K t.dGuest_init ["self", "address", "chances", "now"] []
  Fis_quiet : Fun K "is_quiet" "is_quiet" s_is_quiet t.fis_quiet t.dis_quiet
  bis_quiet : Binds K t.dis_quiet ["guest"] []
  mis_quiet : mg "is_quiet" = some (.ref t.fis_quiet)
  Ffind_request : Fun K "find_request" "find_request" s_find_request t.ffind_request t.dfind_request
  bfind_request : Binds K t.dfind_request ["requests", "number"] []
  mfind_request : mg "find_request" = some (.ref t.ffind_request)
  Fwithout_request : Fun K "without_request" "without_request" s_without_request t.fwithout_request t.dwithout_request
  bwithout_request : Binds K t.dwithout_request ["requests", "number"] []
  mwithout_request : mg "without_request" = some (.ref t.fwithout_request)
  Flate_requests : Fun K "late_requests" "late_requests" s_late_requests t.flate_requests t.dlate_requests
  blate_requests : Binds K t.dlate_requests ["requests", "now", "limit"] []
  mlate_requests : mg "late_requests" = some (.ref t.flate_requests)
  Ftimely_requests : Fun K "timely_requests" "timely_requests" s_timely_requests t.ftimely_requests t.dtimely_requests
  btimely_requests : Binds K t.dtimely_requests ["requests", "now", "limit"] []
  mtimely_requests : mg "timely_requests" = some (.ref t.ftimely_requests)
  Frefill_chances : Fun K "refill_chances" "refill_chances" s_refill_chances t.frefill_chances t.drefill_chances
  brefill_chances : Binds K t.drefill_chances ["guest", "now", "rate", "burst"] []
  mrefill_chances : mg "refill_chances" = some (.ref t.frefill_chances)
  FRules_init : Fun K "__init__" "Rules.__init__" s_Rules_init t.fRules_init t.dRules_init
  bRules_init : Binds K t.dRules_init ["self", "most", "each", "work", "wait", "idle", "limit", "rate", "burst"] []
  Fwithin : Fun K "within" "within" s_within t.fwithin t.dwithin
  bwithin : Binds K t.dwithin ["number", "least", "most"] []
  mwithin : mg "within" = some (.ref t.fwithin)
  Ftime_fits : Fun K "time_fits" "time_fits" s_time_fits t.ftime_fits t.dtime_fits
  btime_fits : Binds K t.dtime_fits ["now"] []
  mtime_fits : mg "time_fits" = some (.ref t.ftime_fits)
  Frules_fit : Fun K "rules_fit" "rules_fit" s_rules_fit t.frules_fit t.drules_fit
  brules_fit : Binds K t.drules_fit ["rules"] []
  mrules_fit : mg "rules_fit" = some (.ref t.frules_fit)
  Faddress_fits : Fun K "address_fits" "address_fits" s_address_fits t.faddress_fits t.daddress_fits
  baddress_fits : Binds K t.daddress_fits ["address"] []
  maddress_fits : mg "address_fits" = some (.ref t.faddress_fits)
  Frequest_fits : Fun K "request_fits" "request_fits" s_request_fits t.frequest_fits t.drequest_fits
  brequest_fits : Binds K t.drequest_fits ["request", "cost", "data"] []
  mrequest_fits : mg "request_fits" = some (.ref t.frequest_fits)
  Fweight_fits : Fun K "weight_fits" "weight_fits" s_weight_fits t.fweight_fits t.dweight_fits
  bweight_fits : Binds K t.dweight_fits ["weight"] []
  mweight_fits : mg "weight_fits" = some (.ref t.fweight_fits)
  Fgrace_fits : Fun K "grace_fits" "grace_fits" s_grace_fits t.fgrace_fits t.dgrace_fits
  bgrace_fits : Binds K t.dgrace_fits ["grace"] []
  mgrace_fits : mg "grace_fits" = some (.ref t.fgrace_fits)
  FServer_init : Fun K "__init__" "Server.__init__" s_Server_init t.fServer_init t.dServer_init
  bServer_init : Binds K t.dServer_init ["self"] []
  Fset_anew : Fun K "set_anew" "set_anew" s_set_anew t.fset_anew t.dset_anew
  bset_anew : Binds K t.dset_anew ["server", "rules", "now"] []
  mset_anew : mg "set_anew" = some (.ref t.fset_anew)
  Fwant_start : Fun K "want_start" "want_start" s_want_start t.fwant_start t.dwant_start
  bwant_start : Binds K t.dwant_start ["server", "who", "request"] []
  mwant_start : mg "want_start" = some (.ref t.fwant_start)
  Fwant_answer : Fun K "want_answer" "want_answer" s_want_answer t.fwant_answer t.dwant_answer
  bwant_answer : Binds K t.dwant_answer ["server", "who", "number", "data"] []
  mwant_answer : mg "want_answer" = some (.ref t.fwant_answer)
  Fwant_tell : Fun K "want_tell" "want_tell" s_want_tell t.fwant_tell t.dwant_tell
  bwant_tell : Binds K t.dwant_tell ["server", "who", "number", "why"] []
  mwant_tell : mg "want_tell" = some (.ref t.fwant_tell)
  Fwant_cancel : Fun K "want_cancel" "want_cancel" s_want_cancel t.fwant_cancel t.dwant_cancel
  bwant_cancel : Binds K t.dwant_cancel ["server", "who", "number"] []
  mwant_cancel : mg "want_cancel" = some (.ref t.fwant_cancel)
  Fwant_close : Fun K "want_close" "want_close" s_want_close t.fwant_close t.dwant_close
  bwant_close : Binds K t.dwant_close ["server", "who", "why"] []
  mwant_close : mg "want_close" = some (.ref t.fwant_close)
  Fcount_working : Fun K "count_working" "count_working" s_count_working t.fcount_working t.dcount_working
  bcount_working : Binds K t.dcount_working ["server"] []
  mcount_working : mg "count_working" = some (.ref t.fcount_working)
  Fcount_waiting : Fun K "count_waiting" "count_waiting" s_count_waiting t.fcount_waiting t.dcount_waiting
  bcount_waiting : Binds K t.dcount_waiting ["server"] []
  mcount_waiting : mg "count_waiting" = some (.ref t.fcount_waiting)
  Fcount_from : Fun K "count_from" "count_from" s_count_from t.fcount_from t.dcount_from
  bcount_from : Binds K t.dcount_from ["server", "address"] []
  mcount_from : mg "count_from" = some (.ref t.fcount_from)
  Fleast_free_number : Fun K "least_free_number" "least_free_number" s_least_free_number t.fleast_free_number t.dleast_free_number
  bleast_free_number : Binds K t.dleast_free_number ["server"] []
  mleast_free_number : mg "least_free_number" = some (.ref t.fleast_free_number)
  Fcancel_work : Fun K "cancel_work" "cancel_work" s_cancel_work t.fcancel_work t.dcancel_work
  bcancel_work : Binds K t.dcancel_work ["server", "who"] []
  mcancel_work : mg "cancel_work" = some (.ref t.fcancel_work)
  Fsend_away : Fun K "send_away" "send_away" s_send_away t.fsend_away t.dsend_away
  bsend_away : Binds K t.dsend_away ["server", "who"] []
  msend_away : mg "send_away" = some (.ref t.fsend_away)
  Fclose_all_of : Fun K "close_all_of" "close_all_of" s_close_all_of t.fclose_all_of t.dclose_all_of
  bclose_all_of : Binds K t.dclose_all_of ["server", "numbers", "why"] []
  mclose_all_of : mg "close_all_of" = some (.ref t.fclose_all_of)
  Fgo_on : Fun K "go_on" "go_on" s_go_on t.fgo_on t.dgo_on
  bgo_on : Binds K t.dgo_on ["server", "now"] []
  mgo_on : mg "go_on" = some (.ref t.fgo_on)
  Fend_what_is_due : Fun K "end_what_is_due" "end_what_is_due" s_end_what_is_due t.fend_what_is_due t.dend_what_is_due
  bend_what_is_due : Binds K t.dend_what_is_due ["server"] []
  mend_what_is_due : mg "end_what_is_due" = some (.ref t.fend_what_is_due)
  Fsettle : Fun K "settle" "settle" s_settle t.fsettle t.dsettle
  bsettle : Binds K t.dsettle ["server"] []
  msettle : mg "settle" = some (.ref t.fsettle)
  Fdrop_late : Fun K "drop_late" "drop_late" s_drop_late t.fdrop_late t.ddrop_late
  bdrop_late : Binds K t.ddrop_late ["server"] []
  mdrop_late : mg "drop_late" = some (.ref t.fdrop_late)
  Fdrop_late_of : Fun K "drop_late_of" "drop_late_of" s_drop_late_of t.fdrop_late_of t.ddrop_late_of
  bdrop_late_of : Binds K t.ddrop_late_of ["server", "who"] []
  mdrop_late_of : mg "drop_late_of" = some (.ref t.fdrop_late_of)
  Fquiet_numbers : Fun K "quiet_numbers" "quiet_numbers" s_quiet_numbers t.fquiet_numbers t.dquiet_numbers
  bquiet_numbers : Binds K t.dquiet_numbers ["server"] []
  mquiet_numbers : mg "quiet_numbers" = some (.ref t.fquiet_numbers)
  Fclose_idle : Fun K "close_idle" "close_idle" s_close_idle t.fclose_idle t.dclose_idle
  bclose_idle : Binds K t.dclose_idle ["server"] []
  mclose_idle : mg "close_idle" = some (.ref t.fclose_idle)
  Fis_grace_over : Fun K "is_grace_over" "is_grace_over" s_is_grace_over t.fis_grace_over t.dis_grace_over
  bis_grace_over : Binds K t.dis_grace_over ["server"] []
  mis_grace_over : mg "is_grace_over" = some (.ref t.fis_grace_over)
  Fclose_quiet_if_ending : Fun K "close_quiet_if_ending" "close_quiet_if_ending" s_close_quiet_if_ending t.fclose_quiet_if_ending t.dclose_quiet_if_ending
  bclose_quiet_if_ending : Binds K t.dclose_quiet_if_ending ["server"] []
  mclose_quiet_if_ending : mg "close_quiet_if_ending" = some (.ref t.fclose_quiet_if_ending)
  Fclose_all_if_grace_over : Fun K "close_all_if_grace_over" "close_all_if_grace_over" s_close_all_if_grace_over t.fclose_all_if_grace_over t.dclose_all_if_grace_over
  bclose_all_if_grace_over : Binds K t.dclose_all_if_grace_over ["server"] []
  mclose_all_if_grace_over : mg "close_all_if_grace_over" = some (.ref t.fclose_all_if_grace_over)
  Ftidy_row : Fun K "tidy_row" "tidy_row" s_tidy_row t.ftidy_row t.dtidy_row
  btidy_row : Binds K t.dtidy_row ["server"] []
  mtidy_row : mg "tidy_row" = some (.ref t.ftidy_row)
  Ftake_turns : Fun K "take_turns" "take_turns" s_take_turns t.ftake_turns t.dtake_turns
  btake_turns : Binds K t.dtake_turns ["server"] []
  mtake_turns : mg "take_turns" = some (.ref t.ftake_turns)
  Fstart_first : Fun K "start_first" "start_first" s_start_first t.fstart_first t.dstart_first
  bstart_first : Binds K t.dstart_first ["server", "who"] []
  mstart_first : mg "start_first" = some (.ref t.fstart_first)
  Fbegin : Fun K "begin" "begin" s_begin t.fbegin t.dbegin
  bbegin : Binds K t.dbegin ["server", "rules", "now"] []
  mbegin : mg "begin" = some (.ref t.fbegin)
  Farrive : Fun K "arrive" "arrive" s_arrive t.farrive t.darrive
  barrive : Binds K t.darrive ["server", "address", "now"] []
  marrive : mg "arrive" = some (.ref t.farrive)
  Frefuses : Fun K "refuses" "refuses" s_refuses t.frefuses t.drefuses
  brefuses : Binds K t.drefuses ["server", "who", "now"] []
  mrefuses : mg "refuses" = some (.ref t.frefuses)
  Fask : Fun K "ask" "ask" s_ask t.fask t.dask
  bask : Binds K t.dask ["server", "who", "number", "cost", "now", "data"] []
  mask : mg "ask" = some (.ref t.fask)
  Fwhy_not_taken : Fun K "why_not_taken" "why_not_taken" s_why_not_taken t.fwhy_not_taken t.dwhy_not_taken
  bwhy_not_taken : Binds K t.dwhy_not_taken ["server", "guest"] []
  mwhy_not_taken : mg "why_not_taken" = some (.ref t.fwhy_not_taken)
  Ftake : Fun K "take" "take" s_take t.ftake t.dtake
  btake : Binds K t.dtake ["server", "who", "request"] []
  mtake : mg "take" = some (.ref t.ftake)
  Fanswer : Fun K "answer" "answer" s_answer t.fanswer t.danswer
  banswer : Binds K t.danswer ["server", "who", "number", "now", "data"] []
  manswer : mg "answer" = some (.ref t.fanswer)
  Fdrop : Fun K "drop" "drop" s_drop t.fdrop t.ddrop
  bdrop : Binds K t.ddrop ["server", "who", "number", "now"] []
  mdrop : mg "drop" = some (.ref t.fdrop)
  Fleave : Fun K "leave" "leave" s_leave t.fleave t.dleave
  bleave : Binds K t.dleave ["server", "who", "now"] []
  mleave : mg "leave" = some (.ref t.fleave)
  Fhear : Fun K "hear" "hear" s_hear t.fhear t.dhear
  bhear : Binds K t.dhear ["server", "who", "now"] []
  mhear : mg "hear" = some (.ref t.fhear)
  Fweigh : Fun K "weigh" "weigh" s_weigh t.fweigh t.dweigh
  bweigh : Binds K t.dweigh ["server", "who", "weight", "now"] []
  mweigh : mg "weigh" = some (.ref t.fweigh)
  Ftick : Fun K "tick" "tick" s_tick t.ftick t.dtick
  btick : Binds K t.dtick ["server", "now"] []
  mtick : mg "tick" = some (.ref t.ftick)
  Fstop : Fun K "stop" "stop" s_stop t.fstop t.dstop
  bstop : Binds K t.dstop ["server", "grace", "now"] []
  mstop : mg "stop" = some (.ref t.fstop)
  Ftell_due : Fun K "tell_due" "tell_due" s_tell_due t.ftell_due t.dtell_due
  btell_due : Binds K t.dtell_due ["server"] []
  mtell_due : mg "tell_due" = some (.ref t.ftell_due)
  Fdue_times : Fun K "due_times" "due_times" s_due_times t.fdue_times t.ddue_times
  bdue_times : Binds K t.ddue_times ["server"] []
  mdue_times : mg "due_times" = some (.ref t.fdue_times)
  Flate_times : Fun K "late_times" "late_times" s_late_times t.flate_times t.dlate_times
  blate_times : Binds K t.dlate_times ["guest", "limit"] []
  mlate_times : mg "late_times" = some (.ref t.flate_times)
  Fidle_times : Fun K "idle_times" "idle_times" s_idle_times t.fidle_times t.didle_times
  bidle_times : Binds K t.didle_times ["guest", "idle"] []
  midle_times : mg "idle_times" = some (.ref t.fidle_times)
  Ftell_counts : Fun K "tell_counts" "tell_counts" s_tell_counts t.ftell_counts t.dtell_counts
  btell_counts : Binds K t.dtell_counts ["server"] []
  mtell_counts : mg "tell_counts" = some (.ref t.ftell_counts)
  Ftell_guest : Fun K "tell_guest" "tell_guest" s_tell_guest t.ftell_guest t.dtell_guest
  btell_guest : Binds K t.dtell_guest ["server", "who"] []
  mtell_guest : mg "tell_guest" = some (.ref t.ftell_guest)
  Frequest_numbers : Fun K "request_numbers" "request_numbers" s_request_numbers t.frequest_numbers t.drequest_numbers
  brequest_numbers : Binds K t.drequest_numbers ["requests"] []
  mrequest_numbers : mg "request_numbers" = some (.ref t.frequest_numbers)
  Fanswers : Fun K "answers" "answers" s_answers t.fanswers t.danswers
  banswers : Binds K t.danswers ["calls"] []
  manswers : mg "answers" = some (.ref t.fanswers)
  Fanswer_call : Fun K "answer_call" "answer_call" s_answer_call t.fanswer_call t.danswer_call
  banswer_call : Binds K t.danswer_call ["server", "call", "numbers", "data"] []
  manswer_call : mg "answer_call" = some (.ref t.fanswer_call)
  Ftell : Fun K "tell" "tell" s_tell t.ftell t.dtell
  btell : Binds K t.dtell ["server", "call", "numbers", "data"] []
  mtell : mg "tell" = some (.ref t.ftell)
  Fserve : Fun K "serve" "serve" s_serve t.fserve t.dserve
  bserve : Binds K t.dserve ["server", "call", "numbers", "data"] []
  mserve : mg "serve" = some (.ref t.fserve)
  Fsteer : Fun K "steer" "steer" s_steer t.fsteer t.dsteer
  bsteer : Binds K t.dsteer ["server", "call", "numbers"] []
  msteer : mg "steer" = some (.ref t.fsteer)
  Fread_rules : Fun K "read_rules" "read_rules" s_read_rules t.fread_rules t.dread_rules
  bread_rules : Binds K t.dread_rules ["numbers"] []
  mread_rules : mg "read_rules" = some (.ref t.fread_rules)
  cOUT_OF_RANGE : mg "OUT_OF_RANGE" = some (.int (-1) t.tOUT_OF_RANGE)
  cNOBODY : mg "NOBODY" = some (.int (-2) t.tNOBODY)
  cHAS_IT_ALREADY : mg "HAS_IT_ALREADY" = some (.int (-3) t.tHAS_IT_ALREADY)
  cNO_RULES : mg "NO_RULES" = some (.int (-4) t.tNO_RULES)
  cNOT_WORKED_AT : mg "NOT_WORKED_AT" = some (.int (-5) t.tNOT_WORKED_AT)
  cFULL : mg "FULL" = some (.int (-6) t.tFULL)
  cADDRESS_FULL : mg "ADDRESS_FULL" = some (.int (-7) t.tADDRESS_FULL)
  cIS_ENDING : mg "IS_ENDING" = some (.int (-8) t.tIS_ENDING)
  cLAST_TIME : mg "LAST_TIME" = some (.int (4611686018427387904) t.tLAST_TIME)
  cLONGEST_SPAN : mg "LONGEST_SPAN" = some (.int (2147483648) t.tLONGEST_SPAN)
  cNUMBERS_END : mg "NUMBERS_END" = some (.int (4294967296) t.tNUMBERS_END)
  cMOST_COST : mg "MOST_COST" = some (.int (65535) t.tMOST_COST)
  cMOST_BYTES : mg "MOST_BYTES" = some (.int (65536) t.tMOST_BYTES)
  cMOST_WEIGHT : mg "MOST_WEIGHT" = some (.int (16) t.tMOST_WEIGHT)
  cTELL_TOO_MANY : mg "TELL_TOO_MANY" = some (.int (1) t.tTELL_TOO_MANY)
  cTELL_TOO_OFTEN : mg "TELL_TOO_OFTEN" = some (.int (2) t.tTELL_TOO_OFTEN)
  cTELL_ENDING : mg "TELL_ENDING" = some (.int (3) t.tTELL_ENDING)
  cTELL_TOO_LATE : mg "TELL_TOO_LATE" = some (.int (4) t.tTELL_TOO_LATE)
  cCLOSE_IDLE : mg "CLOSE_IDLE" = some (.int (1) t.tCLOSE_IDLE)
  cCLOSE_ENDING : mg "CLOSE_ENDING" = some (.int (2) t.tCLOSE_ENDING)
  cCLOSE_GRACE_OVER : mg "CLOSE_GRACE_OVER" = some (.int (3) t.tCLOSE_GRACE_OVER)
  cCREDIT_FOR_WEIGHT : mg "CREDIT_FOR_WEIGHT" = some (.int (1000) t.tCREDIT_FOR_WEIGHT)
  cONE_CHANCE : mg "ONE_CHANCE" = some (.int (1000) t.tONE_CHANCE)
  cBEGIN : mg "BEGIN" = some (.int (1) t.tBEGIN)
  cARRIVES : mg "ARRIVES" = some (.int (2) t.tARRIVES)
  cASKS : mg "ASKS" = some (.int (3) t.tASKS)
  cANSWERS : mg "ANSWERS" = some (.int (4) t.tANSWERS)
  cDROPS : mg "DROPS" = some (.int (5) t.tDROPS)
  cLEAVES : mg "LEAVES" = some (.int (6) t.tLEAVES)
  cWEIGHT : mg "WEIGHT" = some (.int (8) t.tWEIGHT)
  cTICK : mg "TICK" = some (.int (9) t.tTICK)
  cSTOP : mg "STOP" = some (.int (10) t.tSTOP)
  cDUE : mg "DUE" = some (.int (11) t.tDUE)
  cTOLD : mg "TOLD" = some (.int (12) t.tTOLD)
  cLOOK : mg "LOOK" = some (.int (13) t.tLOOK)
  mNUMBERS_OF : mg "NUMBERS_OF" = some (.ref t.gNUMBERS_OF)
  len : mg "len" = none
  max : mg "max" = none
  min : mg "min" = none
  sum : mg "sum" = none
  sorted : mg "sorted" = none
theorem sc_Request_init : FnScope ["self", "number", "cost", "data", "since"] ["self", "number", "cost", "data", "since"] (defScope s_Request_init) := ⟨rfl, rfl, rfl, by decide +kernel, rfl, by decide +kernel, by decide +kernel⟩
theorem sc_Guest_init : FnScope ["self", "address", "chances", "now"] ["self", "address", "chances", "now"] (defScope s_Guest_init) := ⟨rfl, rfl, rfl, by decide +kernel, rfl, by decide +kernel, by decide +kernel⟩
theorem sc_is_quiet : FnScope ["guest"] ["guest"] (defScope s_is_quiet) := ⟨rfl, rfl, rfl, by decide +kernel, rfl, by decide +kernel, by decide +kernel⟩
theorem sc_find_request : FnScope ["requests", "number", "request"] ["requests", "number"] (defScope s_find_request) := ⟨rfl, rfl, rfl, by decide +kernel, rfl, by decide +kernel, by decide +kernel⟩
theorem sc_without_request : FnScope ["requests", "number", "request"] ["requests", "number"] (defScope s_without_request) := ⟨rfl, rfl, rfl, by decide +kernel, rfl, by decide +kernel, by decide +kernel⟩
theorem sc_late_requests : FnScope ["requests", "now", "limit", "request"] ["requests", "now", "limit"] (defScope s_late_requests) := ⟨rfl, rfl, rfl, by decide +kernel, rfl, by decide +kernel, by decide +kernel⟩
theorem sc_timely_requests : FnScope ["requests", "now", "limit", "request"] ["requests", "now", "limit"] (defScope s_timely_requests) := ⟨rfl, rfl, rfl, by decide +kernel, rfl, by decide +kernel, by decide +kernel⟩
theorem sc_refill_chances : FnScope ["guest", "now", "rate", "burst", "more"] ["guest", "now", "rate", "burst"] (defScope s_refill_chances) := ⟨rfl, rfl, rfl, by decide +kernel, rfl, by decide +kernel, by decide +kernel⟩
theorem sc_Rules_init : FnScope ["self", "most", "each", "work", "wait", "idle", "limit", "rate", "burst"] ["self", "most", "each", "work", "wait", "idle", "limit", "rate", "burst"] (defScope s_Rules_init) := ⟨rfl, rfl, rfl, by decide +kernel, rfl, by decide +kernel, by decide +kernel⟩
theorem sc_within : FnScope ["number", "least", "most"] ["number", "least", "most"] (defScope s_within) := ⟨rfl, rfl, rfl, by decide +kernel, rfl, by decide +kernel, by decide +kernel⟩
theorem sc_time_fits : FnScope ["now"] ["now"] (defScope s_time_fits) := ⟨rfl, rfl, rfl, by decide +kernel, rfl, by decide +kernel, by decide +kernel⟩
theorem sc_rules_fit : FnScope ["rules"] ["rules"] (defScope s_rules_fit) := ⟨rfl, rfl, rfl, by decide +kernel, rfl, by decide +kernel, by decide +kernel⟩
theorem sc_address_fits : FnScope ["address"] ["address"] (defScope s_address_fits) := ⟨rfl, rfl, rfl, by decide +kernel, rfl, by decide +kernel, by decide +kernel⟩
theorem sc_request_fits : FnScope ["request", "cost", "data"] ["request", "cost", "data"] (defScope s_request_fits) := ⟨rfl, rfl, rfl, by decide +kernel, rfl, by decide +kernel, by decide +kernel⟩
theorem sc_weight_fits : FnScope ["weight"] ["weight"] (defScope s_weight_fits) := ⟨rfl, rfl, rfl, by decide +kernel, rfl, by decide +kernel, by decide +kernel⟩
theorem sc_grace_fits : FnScope ["grace"] ["grace"] (defScope s_grace_fits) := ⟨rfl, rfl, rfl, by decide +kernel, rfl, by decide +kernel, by decide +kernel⟩
theorem sc_Server_init : FnScope ["self"] ["self"] (defScope s_Server_init) := ⟨rfl, rfl, rfl, by decide +kernel, rfl, by decide +kernel, by decide +kernel⟩
theorem sc_set_anew : FnScope ["server", "rules", "now"] ["server", "rules", "now"] (defScope s_set_anew) := ⟨rfl, rfl, rfl, by decide +kernel, rfl, by decide +kernel, by decide +kernel⟩
theorem sc_want_start : FnScope ["server", "who", "request"] ["server", "who", "request"] (defScope s_want_start) := ⟨rfl, rfl, rfl, by decide +kernel, rfl, by decide +kernel, by decide +kernel⟩
theorem sc_want_answer : FnScope ["server", "who", "number", "data"] ["server", "who", "number", "data"] (defScope s_want_answer) := ⟨rfl, rfl, rfl, by decide +kernel, rfl, by decide +kernel, by decide +kernel⟩
theorem sc_want_tell : FnScope ["server", "who", "number", "why"] ["server", "who", "number", "why"] (defScope s_want_tell) := ⟨rfl, rfl, rfl, by decide +kernel, rfl, by decide +kernel, by decide +kernel⟩
theorem sc_want_cancel : FnScope ["server", "who", "number"] ["server", "who", "number"] (defScope s_want_cancel) := ⟨rfl, rfl, rfl, by decide +kernel, rfl, by decide +kernel, by decide +kernel⟩
theorem sc_want_close : FnScope ["server", "who", "why"] ["server", "who", "why"] (defScope s_want_close) := ⟨rfl, rfl, rfl, by decide +kernel, rfl, by decide +kernel, by decide +kernel⟩
theorem sc_count_working : FnScope ["server", "guest"] ["server"] (defScope s_count_working) := ⟨rfl, rfl, rfl, by decide +kernel, rfl, by decide +kernel, by decide +kernel⟩
theorem sc_count_waiting : FnScope ["server", "guest"] ["server"] (defScope s_count_waiting) := ⟨rfl, rfl, rfl, by decide +kernel, rfl, by decide +kernel, by decide +kernel⟩
theorem sc_count_from : FnScope ["server", "address", "guest"] ["server", "address"] (defScope s_count_from) := ⟨rfl, rfl, rfl, by decide +kernel, rfl, by decide +kernel, by decide +kernel⟩
theorem sc_least_free_number : FnScope ["server", "who"] ["server"] (defScope s_least_free_number) := ⟨rfl, rfl, rfl, by decide +kernel, rfl, by decide +kernel, by decide +kernel⟩
theorem sc_cancel_work : FnScope ["server", "who", "request"] ["server", "who"] (defScope s_cancel_work) := ⟨rfl, rfl, rfl, by decide +kernel, rfl, by decide +kernel, by decide +kernel⟩
theorem sc_send_away : FnScope ["server", "who"] ["server", "who"] (defScope s_send_away) := ⟨rfl, rfl, rfl, by decide +kernel, rfl, by decide +kernel, by decide +kernel⟩
theorem sc_close_all_of : FnScope ["server", "numbers", "why", "who"] ["server", "numbers", "why"] (defScope s_close_all_of) := ⟨rfl, rfl, rfl, by decide +kernel, rfl, by decide +kernel, by decide +kernel⟩
theorem sc_go_on : FnScope ["server", "now"] ["server", "now"] (defScope s_go_on) := ⟨rfl, rfl, rfl, by decide +kernel, rfl, by decide +kernel, by decide +kernel⟩
theorem sc_end_what_is_due : FnScope ["server"] ["server"] (defScope s_end_what_is_due) := ⟨rfl, rfl, rfl, by decide +kernel, rfl, by decide +kernel, by decide +kernel⟩
theorem sc_settle : FnScope ["server"] ["server"] (defScope s_settle) := ⟨rfl, rfl, rfl, by decide +kernel, rfl, by decide +kernel, by decide +kernel⟩
theorem sc_drop_late : FnScope ["server", "who"] ["server"] (defScope s_drop_late) := ⟨rfl, rfl, rfl, by decide +kernel, rfl, by decide +kernel, by decide +kernel⟩
theorem sc_drop_late_of : FnScope ["server", "who", "guest", "limit", "late_work", "late_waits", "request"] ["server", "who"] (defScope s_drop_late_of) := ⟨rfl, rfl, rfl, by decide +kernel, rfl, by decide +kernel, by decide +kernel⟩
theorem sc_quiet_numbers : FnScope ["server", "who"] ["server"] (defScope s_quiet_numbers) := ⟨rfl, rfl, rfl, by decide +kernel, rfl, by decide +kernel, by decide +kernel⟩
theorem sc_close_idle : FnScope ["server", "idle", "quiet", "unheard", "who"] ["server"] (defScope s_close_idle) := ⟨rfl, rfl, rfl, by decide +kernel, rfl, by decide +kernel, by decide +kernel⟩
theorem sc_is_grace_over : FnScope ["server"] ["server"] (defScope s_is_grace_over) := ⟨rfl, rfl, rfl, by decide +kernel, rfl, by decide +kernel, by decide +kernel⟩
theorem sc_close_quiet_if_ending : FnScope ["server"] ["server"] (defScope s_close_quiet_if_ending) := ⟨rfl, rfl, rfl, by decide +kernel, rfl, by decide +kernel, by decide +kernel⟩
theorem sc_close_all_if_grace_over : FnScope ["server", "numbers", "who"] ["server"] (defScope s_close_all_if_grace_over) := ⟨rfl, rfl, rfl, by decide +kernel, rfl, by decide +kernel, by decide +kernel⟩
theorem sc_tidy_row : FnScope ["server", "kept", "who", "guest"] ["server"] (defScope s_tidy_row) := ⟨rfl, rfl, rfl, by decide +kernel, rfl, by decide +kernel, by decide +kernel⟩
theorem sc_take_turns : FnScope ["server", "free", "who", "guest"] ["server"] (defScope s_take_turns) := ⟨rfl, rfl, rfl, by decide +kernel, rfl, by decide +kernel, by decide +kernel⟩
theorem sc_start_first : FnScope ["server", "who", "guest", "request"] ["server", "who"] (defScope s_start_first) := ⟨rfl, rfl, rfl, by decide +kernel, rfl, by decide +kernel, by decide +kernel⟩
theorem sc_begin : FnScope ["server", "rules", "now"] ["server", "rules", "now"] (defScope s_begin) := ⟨rfl, rfl, rfl, by decide +kernel, rfl, by decide +kernel, by decide +kernel⟩
theorem sc_arrive : FnScope ["server", "address", "now", "who"] ["server", "address", "now"] (defScope s_arrive) := ⟨rfl, rfl, rfl, by decide +kernel, rfl, by decide +kernel, by decide +kernel⟩
theorem sc_refuses : FnScope ["server", "who", "now"] ["server", "who", "now"] (defScope s_refuses) := ⟨rfl, rfl, rfl, by decide +kernel, rfl, by decide +kernel, by decide +kernel⟩
theorem sc_ask : FnScope ["server", "who", "number", "cost", "now", "data", "refused", "guest", "why"] ["server", "who", "number", "cost", "now", "data"] (defScope s_ask) := ⟨rfl, rfl, rfl, by decide +kernel, rfl, by decide +kernel, by decide +kernel⟩
theorem sc_why_not_taken : FnScope ["server", "guest", "rules", "busy"] ["server", "guest"] (defScope s_why_not_taken) := ⟨rfl, rfl, rfl, by decide +kernel, rfl, by decide +kernel, by decide +kernel⟩
theorem sc_take : FnScope ["server", "who", "request", "guest"] ["server", "who", "request"] (defScope s_take) := ⟨rfl, rfl, rfl, by decide +kernel, rfl, by decide +kernel, by decide +kernel⟩
theorem sc_answer : FnScope ["server", "who", "number", "now", "data", "refused", "guest"] ["server", "who", "number", "now", "data"] (defScope s_answer) := ⟨rfl, rfl, rfl, by decide +kernel, rfl, by decide +kernel, by decide +kernel⟩
theorem sc_drop : FnScope ["server", "who", "number", "now", "refused", "guest", "was_worked_at"] ["server", "who", "number", "now"] (defScope s_drop) := ⟨rfl, rfl, rfl, by decide +kernel, rfl, by decide +kernel, by decide +kernel⟩
theorem sc_leave : FnScope ["server", "who", "now", "refused", "guest"] ["server", "who", "now"] (defScope s_leave) := ⟨rfl, rfl, rfl, by decide +kernel, rfl, by decide +kernel, by decide +kernel⟩
theorem sc_hear : FnScope ["server", "who", "now", "refused", "guest"] ["server", "who", "now"] (defScope s_hear) := ⟨rfl, rfl, rfl, by decide +kernel, rfl, by decide +kernel, by decide +kernel⟩
theorem sc_weigh : FnScope ["server", "who", "weight", "now", "refused", "guest"] ["server", "who", "weight", "now"] (defScope s_weigh) := ⟨rfl, rfl, rfl, by decide +kernel, rfl, by decide +kernel, by decide +kernel⟩
theorem sc_tick : FnScope ["server", "now"] ["server", "now"] (defScope s_tick) := ⟨rfl, rfl, rfl, by decide +kernel, rfl, by decide +kernel, by decide +kernel⟩
theorem sc_stop : FnScope ["server", "grace", "now"] ["server", "grace", "now"] (defScope s_stop) := ⟨rfl, rfl, rfl, by decide +kernel, rfl, by decide +kernel, by decide +kernel⟩
theorem sc_tell_due : FnScope ["server", "times"] ["server"] (defScope s_tell_due) := ⟨rfl, rfl, rfl, by decide +kernel, rfl, by decide +kernel, by decide +kernel⟩
theorem sc_due_times : FnScope ["server", "times", "guest"] ["server"] (defScope s_due_times) := ⟨rfl, rfl, rfl, by decide +kernel, rfl, by decide +kernel, by decide +kernel⟩
theorem sc_late_times : FnScope ["guest", "limit", "request"] ["guest", "limit"] (defScope s_late_times) := ⟨rfl, rfl, rfl, by decide +kernel, rfl, by decide +kernel, by decide +kernel⟩
theorem sc_idle_times : FnScope ["guest", "idle"] ["guest", "idle"] (defScope s_idle_times) := ⟨rfl, rfl, rfl, by decide +kernel, rfl, by decide +kernel, by decide +kernel⟩
theorem sc_tell_counts : FnScope ["server", "here", "ever", "ending"] ["server"] (defScope s_tell_counts) := ⟨rfl, rfl, rfl, by decide +kernel, rfl, by decide +kernel, by decide +kernel⟩
theorem sc_tell_guest : FnScope ["server", "who", "guest", "told"] ["server", "who"] (defScope s_tell_guest) := ⟨rfl, rfl, rfl, by decide +kernel, rfl, by decide +kernel, by decide +kernel⟩
theorem sc_request_numbers : FnScope ["requests", "request"] ["requests"] (defScope s_request_numbers) := ⟨rfl, rfl, rfl, by decide +kernel, rfl, by decide +kernel, by decide +kernel⟩
theorem sc_answers : FnScope ["calls", "server", "given", "place", "call", "data_place", "numbers", "data", "told"] ["calls"] (defScope s_answers) := ⟨rfl, rfl, rfl, by decide +kernel, rfl, by decide +kernel, by decide +kernel⟩
theorem sc_answer_call : FnScope ["server", "call", "numbers", "data", "told", "want"] ["server", "call", "numbers", "data"] (defScope s_answer_call) := ⟨rfl, rfl, rfl, by decide +kernel, rfl, by decide +kernel, by decide +kernel⟩
theorem sc_tell : FnScope ["server", "call", "numbers", "data"] ["server", "call", "numbers", "data"] (defScope s_tell) := ⟨rfl, rfl, rfl, by decide +kernel, rfl, by decide +kernel, by decide +kernel⟩
theorem sc_serve : FnScope ["server", "call", "numbers", "data"] ["server", "call", "numbers", "data"] (defScope s_serve) := ⟨rfl, rfl, rfl, by decide +kernel, rfl, by decide +kernel, by decide +kernel⟩
theorem sc_steer : FnScope ["server", "call", "numbers"] ["server", "call", "numbers"] (defScope s_steer) := ⟨rfl, rfl, rfl, by decide +kernel, rfl, by decide +kernel, by decide +kernel⟩
theorem sc_read_rules : FnScope ["numbers"] ["numbers"] (defScope s_read_rules) := ⟨rfl, rfl, rfl, by decide +kernel, rfl, by decide +kernel, by decide +kernel⟩
end Fd
end
section
namespace Fd
open PySem L2 Sw55
theorem pe_gi {X : Cx} {x : Str} {i : Int} {t : Tok} {pos : Pos} (hg : Gl X x) (hm : X.mg x = some (.int i t)) (hd : (x == ("__debug__" : Str)) = false := by decide) : PE X (.Name x pos) (tC (.int i)) := pe_glob hg hm ⟨t, rfl⟩ hd
theorem pe_fldk {X : Cx} (K : PySem.W.Frag) {e : Expr} {f : Str} {pos : Pos} {ta : TE} (he : PE X e ta) (hb : attributeBase e f X.env (eval e X.env) = eval e X.env) (hK : X.K = K := by rfl) : PE X (.Attribute e f pos) (tFld K ta f) := by
  subst hK; exact pe_fld he hb
theorem call_lenk {X : Cx} (K : PySem.W.Frag) (hK : X.K = K := by rfl) : CallR X (.builtin "len") (fun xs H Q => ∃ p ys, xs = [.ref p] ∧ (SqL K H p ys ∨ SqT K H p ys) ∧ Q (.int ys.length) H) := by
  subst hK; exact call_len_seq
def clOf (t : Adr) : Cl := ⟨t.CServer, t.CGuest, t.CRequest, t.CRules⟩
theorem within_nat (n a b : Nat) : (decide ((a : Int) ≤ (n : Int)) && decide ((n : Int) ≤ (b : Int))) = within n a b := by
  unfold within
  congr 1 <;> simp
section
variable {P : Program} {w : World} {K : PySem.W.Frag} {mg : Str → Option Value} {base : Heap} {t : Adr}
def sp_within : Sp := fun vs H Q _ => ∃ a b c : Int, vs = [.int a, .int b, .int c] ∧ Q (.bl (decide (b ≤ a) && decide (a ≤ c))) H
theorem ok_within (T : Txt K mg t) : FnOk P w K mg base CX0 1 t.fwithin t.dwithin ["number", "least", "most"] sp_within := by
  refine T.Fwithin.ok sc_within (fun vs H Q E h => ?_) (fun cdv A outer s H vs Q E hr h => ?_)
  · obtain ⟨a, b, c, rfl, _⟩ := h; rfl
  · obtain ⟨a, b, c, rfl, k⟩ := h
    refine ⟨_, (pss_one (ps_ret (pe_and (pe_cmpR op_le (pv 1) (pv 0) (nomark _)) (pe_one (pe_cmpR op_le (pv 0) (pv 2) (nomark _)))))), ?_⟩
    refine ⟨_, rfl, _, rfl, _, _, rfl, rfl, _, rfl, ?_⟩
    refine ite2 (fun z => ?_) (fun z => ?_)
    · refine ⟨_, rfl, _, rfl, _, _, rfl, rfl, ?_⟩
      rw [z, Bool.true_and] at k
      exact k
    · rw [Bool.not_eq_true] at z
      rw [z, Bool.false_and] at k
      exact k
def sp_time_fits : Sp := fun vs H Q _ => ∃ n : Nat, vs = [nv n] ∧ Q (.bl (within n 0 TIME)) H
theorem ok_time_fits (T : Txt K mg t) : FnOk P w K mg base CX0 2 t.ftime_fits t.dtime_fits ["now"] sp_time_fits := by
  have G_within : FnOk P w K mg base CX0 1 t.fwithin t.dwithin ["number", "least", "most"] sp_within := ok_within T
  refine T.Ftime_fits.ok sc_time_fits (fun vs H Q E h => ?_) (fun cdv A outer s H vs Q E hr h => ?_)
  · obtain ⟨n, rfl, _⟩ := h; rfl
  · obtain ⟨n, rfl, k⟩ := h
    refine ⟨_, (pss_one (ps_ret (pe_call G_within hr rfl T.mwithin T.Fwithin.kp T.bwithin .nil pass0 (pa_cons (pv 0) (pa_cons pe_int (pa_cons (pe_gi rfl T.cLAST_TIME) pa_nil)))))), ?_⟩
    refine ⟨_, rfl, (n : Int), 0, 4611686018427387904, rfl, ?_⟩
    have e := within_nat n 0 TIME
    rw [← e] at k
    exact k
def sp_address_fits : Sp := fun vs H Q _ => ∃ n : Nat, vs = [nv n] ∧ Q (.bl (within n 0 4294967295)) H
theorem ok_address_fits (T : Txt K mg t) : FnOk P w K mg base CX0 2 t.faddress_fits t.daddress_fits ["address"] sp_address_fits := by
  have G_within : FnOk P w K mg base CX0 1 t.fwithin t.dwithin ["number", "least", "most"] sp_within := ok_within T
  refine T.Faddress_fits.ok sc_address_fits (fun vs H Q E h => ?_) (fun cdv A outer s H vs Q E hr h => ?_)
  · obtain ⟨n, rfl, _⟩ := h; rfl
  · obtain ⟨n, rfl, k⟩ := h
    refine ⟨_, (pss_one (ps_ret (pe_call G_within hr rfl T.mwithin T.Fwithin.kp T.bwithin .nil pass0 (pa_cons (pv 0) (pa_cons pe_int (pa_cons (pe_op op_sub (pe_gi rfl T.cNUMBERS_END) pe_int) pa_nil)))))), ?_⟩
    refine ⟨_, rfl, _, _, rfl, rfl, (n : Int), 0, 4294967295, rfl, ?_⟩
    have e := within_nat n 0 4294967295
    rw [← e] at k
    exact k
def reqFits (n c l : Nat) : Bool := within n 0 4294967295 && (within c 1 65535 && decide (l ≤ 65536))
def sp_request_fits (K : PySem.W.Frag) : Sp := fun vs H Q _ => ∃ (n c : Nat) (a : Addr) (xs : List V), vs = [nv n, nv c, .ref a] ∧ SqL K H a xs ∧ Q (.bl (reqFits n c xs.length)) H
theorem ok_request_fits (T : Txt K mg t) : FnOk P w K mg base CX0 2 t.frequest_fits t.drequest_fits ["request", "cost", "data"] (sp_request_fits K) := by
  have G_within : FnOk P w K mg base CX0 1 t.fwithin t.dwithin ["number", "least", "most"] sp_within := ok_within T
  refine T.Frequest_fits.ok sc_request_fits (fun vs H Q E h => ?_) (fun cdv A outer s H vs Q E hr h => ?_)
  · obtain ⟨n, c, a, xs, rfl, _⟩ := h; rfl
  · obtain ⟨n, c, a, xs, rfl, ha, k⟩ := h
    refine ⟨_, (pss_one (ps_ret (pe_and (pe_call G_within hr rfl T.mwithin T.Fwithin.kp T.bwithin .nil pass0 (pa_cons (pv 0) (pa_cons pe_int (pa_cons (pe_op op_sub (pe_gi rfl T.cNUMBERS_END) pe_int) pa_nil)))) (pe_and (pe_call G_within hr rfl T.mwithin T.Fwithin.kp T.bwithin .nil pass0 (pa_cons (pv 1) (pa_cons pe_int (pa_cons (pe_gi rfl T.cMOST_COST) pa_nil)))) (pe_one (pe_cmpR op_le (pe_callB call_len_seq (by rfl) T.len PySem.boot_len (pa_cons (pv 2) pa_nil)) (pe_gi rfl T.cMOST_BYTES) (nomark _))))))), ?_⟩
    unfold reqFits at k
    refine ⟨_, rfl, _, _, rfl, rfl, (n : Int), 0, 4294967295, rfl, _, rfl, ?_⟩
    have e1 := within_nat n 0 4294967295
    have e2 := within_nat c 1 65535
    refine ite2 (fun z => ?_) (fun z => ?_)
    · have z1 : within n 0 4294967295 = true := e1.symm.trans z
      rw [z1, Bool.true_and] at k
      refine ⟨_, rfl, (c : Int), 1, 65535, rfl, _, rfl, ?_⟩
      refine ite2 (fun z => ?_) (fun z => ?_)
      · have z1 : within c 1 65535 = true := e2.symm.trans z
        rw [z1, Bool.true_and] at k
        refine ⟨_, rfl, a, xs, rfl, .inl ha, _, _, rfl, rfl, ?_⟩
        have e3 : decide ((xs.length : Int) ≤ 65536) = decide (xs.length ≤ 65536) := by
          congr 1; simp only [eq_iff_iff]; omega
        rw [← e3] at k
        exact k
      · have z1 : within c 1 65535 = false := e2.symm.trans (Bool.not_eq_true _ ▸ z)
        rw [z1, Bool.false_and] at k
        exact k
    · have z1 : within n 0 4294967295 = false := e1.symm.trans (Bool.not_eq_true _ ▸ z)
      rw [z1, Bool.false_and] at k
      exact k
end
end Fd
end
section
namespace Fd
open PySem L2 Sw55
theorem and_step {Q : VK} {H : Hp} {b c : Bool} {R : Prop} (k : Q (.bl (b && c)) H) (h : Q (.bl c) H → R) : if b = true then R else Q (.bl false) H := by
  cases b with
  | true => rw [if_pos rfl]; exact h k
  | false => rw [if_neg Bool.false_ne_true]; exact k
section
variable {P : Program} {w : World} {K : PySem.W.Frag} {mg : Str → Option Value} {base : Heap} {t : Adr}
def rulesFit (r : Rules) : Bool := within r.most 1 64 && (within r.each 1 64 && (within r.work 1 1024 && (within r.wait 0 64 && (within r.idle 0 2147483648 && (within r.limit 0 2147483648 && (within r.rate 0 1000000 && within r.burst 1 1000))))))
def sp_rules_fit (t : Adr) : Sp := fun vs H Q _ => ∃ (u dx : Addr) (r : Rules), vs = [.ref u] ∧ H u = some (.ins t.CRules dx (uf r)) ∧ Q (.bl (rulesFit r)) H
theorem ok_rules_fit (T : Txt K mg t) : FnOk P w K mg base CX0 2 t.frules_fit t.drules_fit ["rules"] (sp_rules_fit t) := by
  have G_within : FnOk P w K mg base CX0 1 t.fwithin t.dwithin ["number", "least", "most"] sp_within := ok_within T
  refine T.Frules_fit.ok sc_rules_fit (fun vs H Q E h => ?_) (fun cdv A outer s H vs Q E hr h => ?_)
  · obtain ⟨u, dx, r, rfl, _⟩ := h; rfl
  · obtain ⟨u, dx, r, rfl, hu, k⟩ := h
    refine ⟨_, (pss_one (ps_ret (pe_and (pe_call G_within hr rfl T.mwithin T.Fwithin.kp T.bwithin .nil pass0 (pa_cons (pe_fld (pv 0) rfl) (pa_cons pe_int (pa_cons pe_int pa_nil)))) (pe_and (pe_call G_within hr rfl T.mwithin T.Fwithin.kp T.bwithin .nil pass0 (pa_cons (pe_fld (pv 0) rfl) (pa_cons pe_int (pa_cons pe_int pa_nil)))) (pe_and (pe_call G_within hr rfl T.mwithin T.Fwithin.kp T.bwithin .nil pass0 (pa_cons (pe_fld (pv 0) rfl) (pa_cons pe_int (pa_cons pe_int pa_nil)))) (pe_and (pe_call G_within hr rfl T.mwithin T.Fwithin.kp T.bwithin .nil pass0 (pa_cons (pe_fld (pv 0) rfl) (pa_cons pe_int (pa_cons pe_int pa_nil)))) (pe_and (pe_call G_within hr rfl T.mwithin T.Fwithin.kp T.bwithin .nil pass0 (pa_cons (pe_fld (pv 0) rfl) (pa_cons pe_int (pa_cons (pe_gi rfl T.cLONGEST_SPAN) pa_nil)))) (pe_and (pe_call G_within hr rfl T.mwithin T.Fwithin.kp T.bwithin .nil pass0 (pa_cons (pe_fld (pv 0) rfl) (pa_cons pe_int (pa_cons (pe_gi rfl T.cLONGEST_SPAN) pa_nil)))) (pe_and (pe_call G_within hr rfl T.mwithin T.Fwithin.kp T.bwithin .nil pass0 (pa_cons (pe_fld (pv 0) rfl) (pa_cons pe_int (pa_cons pe_int pa_nil)))) (pe_one (pe_call G_within hr rfl T.mwithin T.Fwithin.kp T.bwithin .nil pass0 (pa_cons (pe_fld (pv 0) rfl) (pa_cons pe_int (pa_cons pe_int pa_nil)))))))))))))), ?_⟩
    unfold rulesFit at k
    simp only [← within_nat] at k
    refine ⟨_, rfl, u, _, _, _, _, rfl, hu, T.clRules, T.nRules_most, rfl, (r.most : Int), 1, 64, rfl, _, rfl, and_step k fun k => ?_⟩
    refine ⟨_, rfl, u, _, _, _, _, rfl, hu, T.clRules, T.nRules_each, rfl, (r.each : Int), 1, 64, rfl, _, rfl, and_step k fun k => ?_⟩
    refine ⟨_, rfl, u, _, _, _, _, rfl, hu, T.clRules, T.nRules_work, rfl, (r.work : Int), 1, 1024, rfl, _, rfl, and_step k fun k => ?_⟩
    refine ⟨_, rfl, u, _, _, _, _, rfl, hu, T.clRules, T.nRules_wait, rfl, (r.wait : Int), 0, 64, rfl, _, rfl, and_step k fun k => ?_⟩
    refine ⟨_, rfl, u, _, _, _, _, rfl, hu, T.clRules, T.nRules_idle, rfl, (r.idle : Int), 0, 2147483648, rfl, _, rfl, and_step k fun k => ?_⟩
    refine ⟨_, rfl, u, _, _, _, _, rfl, hu, T.clRules, T.nRules_limit, rfl, (r.limit : Int), 0, 2147483648, rfl, _, rfl, and_step k fun k => ?_⟩
    refine ⟨_, rfl, u, _, _, _, _, rfl, hu, T.clRules, T.nRules_rate, rfl, (r.rate : Int), 0, 1000000, rfl, _, rfl, and_step k fun k => ?_⟩
    exact ⟨_, rfl, u, _, _, _, _, rfl, hu, T.clRules, T.nRules_burst, rfl, (r.burst : Int), 1, 1000, rfl, k⟩
def sp_Rules_init (t : Adr) : Sp := fun vs H Q _ => ∃ (p dx : Addr) (r : Rules), vs = [.ref p, nv r.most, nv r.each, nv r.work, nv r.wait, nv r.idle, nv r.limit, nv r.rate, nv r.burst] ∧ H p = some (.ins t.CRules dx []) ∧ Q .non (upd H p (.ins t.CRules dx (uf r)))
theorem ok_Rules_init (T : Txt K mg t) : FnOk P w K mg base CX0 1 t.fRules_init t.dRules_init ["self", "most", "each", "work", "wait", "idle", "limit", "rate", "burst"] (sp_Rules_init t) := by
  refine T.FRules_init.ok sc_Rules_init (fun vs H Q E h => ?_) (fun cdv A outer s H vs Q E hr h => ?_)
  · obtain ⟨p, dx, r, rfl, _⟩ := h; rfl
  · obtain ⟨p, dx, r, rfl, hp, k⟩ := h
    refine ⟨_, (pss_cons (ps_fld (pv 0) (pv 1) rfl)
      (pss_cons (ps_fld (pv 0) (pv 2) rfl)
      (pss_cons (ps_fld (pv 0) (pv 3) rfl)
      (pss_cons (ps_fld (pv 0) (pv 4) rfl)
      (pss_cons (ps_fld (pv 0) (pv 5) rfl)
      (pss_cons (ps_fld (pv 0) (pv 6) rfl)
      (pss_cons (ps_fld (pv 0) (pv 7) rfl)
      (pss_one (ps_fld (pv 0) (pv 8) rfl))))))))), ?_⟩
    refine ⟨_, rfl, _, rfl, p, _, dx, _, rfl, hp, T.clRules, T.nRules_most, (by show 0 < 1000; decide), ?_⟩
    refine ⟨_, rfl, _, rfl, p, _, dx, _, rfl, upd_same, T.clRules, T.nRules_each, (by show 1 < 1000; decide), ?_⟩
    refine ⟨_, rfl, _, rfl, p, _, dx, _, rfl, upd_same, T.clRules, T.nRules_work, (by show 2 < 1000; decide), ?_⟩
    refine ⟨_, rfl, _, rfl, p, _, dx, _, rfl, upd_same, T.clRules, T.nRules_wait, (by show 3 < 1000; decide), ?_⟩
    refine ⟨_, rfl, _, rfl, p, _, dx, _, rfl, upd_same, T.clRules, T.nRules_idle, (by show 4 < 1000; decide), ?_⟩
    refine ⟨_, rfl, _, rfl, p, _, dx, _, rfl, upd_same, T.clRules, T.nRules_limit, (by show 5 < 1000; decide), ?_⟩
    refine ⟨_, rfl, _, rfl, p, _, dx, _, rfl, upd_same, T.clRules, T.nRules_rate, (by show 6 < 1000; decide), ?_⟩
    refine ⟨_, rfl, _, rfl, p, _, dx, _, rfl, upd_same, T.clRules, T.nRules_burst, (by show 7 < 1000; decide), ?_⟩
    rw [upd_upd, upd_upd, upd_upd, upd_upd, upd_upd, upd_upd, upd_upd]
    exact k
def sp_Request_init (t : Adr) : Sp := fun vs H Q _ => ∃ (p dx da : Addr) (n c s : Nat), vs = [.ref p, nv n, nv c, .ref da, nv s] ∧ H p = some (.ins t.CRequest dx []) ∧ Q .non (upd H p (.ins t.CRequest dx (qf n c da s)))
theorem ok_Request_init (T : Txt K mg t) : FnOk P w K mg base CX0 1 t.fRequest_init t.dRequest_init ["self", "number", "cost", "data", "since"] (sp_Request_init t) := by
  refine T.FRequest_init.ok sc_Request_init (fun vs H Q E h => ?_) (fun cdv A outer s H vs Q E hr h => ?_)
  · obtain ⟨p, dx, da, n, c, s, rfl, _⟩ := h; rfl
  · obtain ⟨p, dx, da, n, c, s, rfl, hp, k⟩ := h
    refine ⟨_, (pss_cons (ps_fld (pv 0) (pv 1) rfl)
      (pss_cons (ps_fld (pv 0) (pv 2) rfl)
      (pss_cons (ps_fld (pv 0) (pv 3) rfl)
      (pss_one (ps_fld (pv 0) (pv 4) rfl))))), ?_⟩
    refine ⟨_, rfl, _, rfl, p, _, dx, _, rfl, hp, T.clRequest, T.nRequest_number, (by show 0 < 1000; decide), ?_⟩
    refine ⟨_, rfl, _, rfl, p, _, dx, _, rfl, upd_same, T.clRequest, T.nRequest_cost, (by show 1 < 1000; decide), ?_⟩
    refine ⟨_, rfl, _, rfl, p, _, dx, _, rfl, upd_same, T.clRequest, T.nRequest_data, (by show 2 < 1000; decide), ?_⟩
    refine ⟨_, rfl, _, rfl, p, _, dx, _, rfl, upd_same, T.clRequest, T.nRequest_since, (by show 3 < 1000; decide), ?_⟩
    rw [upd_upd, upd_upd, upd_upd]
    exact k
def sp_Guest_init (t : Adr) : Sp := fun vs H Q _ => ∃ (p dx : Addr) (a c n : Nat), vs = [.ref p, nv a, nv c, nv n] ∧ H p = some (.ins t.CGuest dx []) ∧
  ∀ (H' : Hp) (wa ka : Addr), H wa = none → H ka = none → wa ≠ ka → H' p = some (.ins t.CGuest dx (gf a 1 0 wa ka n c n)) → H' wa = some (.lst []) → H' ka = some (.lst []) → (∀ b, b ≠ p → b ≠ wa → b ≠ ka → H' b = H b) → Q .non H'
theorem ok_Guest_init (T : Txt K mg t) : FnOk P w K mg base CX0 1 t.fGuest_init t.dGuest_init ["self", "address", "chances", "now"] (sp_Guest_init t) := by
  refine T.FGuest_init.ok sc_Guest_init (fun vs H Q E h => ?_) (fun cdv A outer s H vs Q E hr h => ?_)
  · obtain ⟨p, dx, a, c, n, rfl, _⟩ := h; rfl
  · obtain ⟨p, dx, a, c, n, rfl, hp, k⟩ := h
    refine ⟨_, (pss_cons (ps_fld (pv 0) (pv 1) rfl)
      (pss_cons (ps_fld (pv 0) pe_int rfl)
      (pss_cons (ps_fld (pv 0) pe_int rfl)
      (pss_cons (ps_fld (pv 0) (pe_lst pa_nil) rfl)
      (pss_cons (ps_fld (pv 0) (pe_lst pa_nil) rfl)
      (pss_cons (ps_fld (pv 0) (pv 3) rfl)
      (pss_cons (ps_fld (pv 0) (pv 2) rfl)
      (pss_one (ps_fld (pv 0) (pv 3) rfl))))))))), ?_⟩
    refine ⟨_, rfl, _, rfl, p, _, dx, _, rfl, hp, T.clGuest, T.nGuest_address, (by show 0 < 1000; decide), ?_⟩
    refine ⟨_, rfl, p, _, dx, _, rfl, upd_same, T.clGuest, T.nGuest_weight, (by show 1 < 1000; decide), ?_⟩
    refine ⟨_, rfl, p, _, dx, _, rfl, upd_same, T.clGuest, T.nGuest_credit, (by show 2 < 1000; decide), ?_⟩
    refine ⟨(by show 0 ≤ sizeLine; exact Nat.zero_le _), fun wa hwa => ?_⟩
    have npw : p ≠ wa := ne_of_none upd_same hwa
    refine ⟨_, rfl, p, _, dx, _, rfl, (by rw [upd_ne npw]; exact upd_same), T.clGuest, T.nGuest_waiting, (by show 3 < 1000; decide), ?_⟩
    refine ⟨(by show 0 ≤ sizeLine; exact Nat.zero_le _), fun ka hka => ?_⟩
    have npk : p ≠ ka := ne_of_none upd_same hka
    have nwk : wa ≠ ka := ne_of_none (by rw [upd_ne npw.symm]; exact upd_same) hka
    refine ⟨_, rfl, p, _, dx, _, rfl, (by rw [upd_ne npk]; exact upd_same), T.clGuest, T.nGuest_working, (by show 4 < 1000; decide), ?_⟩
    refine ⟨_, rfl, _, rfl, p, _, dx, _, rfl, upd_same, T.clGuest, T.nGuest_heard_at, (by show 5 < 1000; decide), ?_⟩
    refine ⟨_, rfl, _, rfl, p, _, dx, _, rfl, upd_same, T.clGuest, T.nGuest_chances, (by show 6 < 1000; decide), ?_⟩
    refine ⟨_, rfl, _, rfl, p, _, dx, _, rfl, upd_same, T.clGuest, T.nGuest_looked_at, (by show 7 < 1000; decide), ?_⟩
    refine k _ wa ka ?_ ?_ nwk upd_same ?_ ?_ fun b hb hw hk => ?_
    · rw [upd_ne npw.symm, upd_ne npw.symm, upd_ne npw.symm] at hwa; exact hwa
    · rw [upd_ne npk.symm, upd_ne nwk.symm, upd_ne npk.symm, upd_ne npk.symm, upd_ne npk.symm] at hka; exact hka
    · rw [upd_ne npw.symm, upd_ne npw.symm, upd_ne npw.symm, upd_ne npw.symm, upd_ne nwk, upd_ne npw.symm]; exact upd_same
    · rw [upd_ne npk.symm, upd_ne npk.symm, upd_ne npk.symm, upd_ne npk.symm]; exact upd_same
    · rw [upd_ne hb, upd_ne hb, upd_ne hb, upd_ne hb, upd_ne hk, upd_ne hb, upd_ne hw, upd_ne hb, upd_ne hb, upd_ne hb]
end
end Fd
end
section
namespace Fd
open PySem L2 Sw55
theorem len_zero {α : Type} (xs : List α) : decide (V.int (xs.length : Int) = V.int 0) = xs.isEmpty := by
  cases xs with
  | nil => rfl
  | cons a r =>
    rw [decide_eq_false]
    · rfl
    · intro e
      have := V.int.inj e
      simp at this
      omega
def refs {α : Type} (xs : List (Addr × α)) : List V := xs.map fun y => V.ref y.1
theorem refs_get {α : Type} {xs : List (Addr × α)} {i : Nat} {x : V} (h : (refs xs)[i]? = some x) : ∃ y, xs[i]? = some y ∧ y ∈ xs ∧ x = V.ref y.1 := by
  unfold refs at h
  rw [List.getElem?_map] at h
  cases e : xs[i]? with
  | none => rw [e] at h; cases h
  | some y => rw [e] at h; exact ⟨y, rfl, List.mem_of_getElem? e, (Option.some.inj h).symm⟩
theorem take_succ_of {α : Type} {l : List α} {i : Nat} {y : α} (h : l[i]? = some y) : l.take (i + 1) = l.take i ++ [y] := by
  rw [List.take_succ, h]; rfl
def ReqNo (C : Addr) (H : Hp) (xs : List (Addr × Nat)) : Prop := ∀ y ∈ xs, ∃ dx c da s, H y.1 = some (.ins C dx (qf y.2 c da s))
def ReqSince (C : Addr) (H : Hp) (xs : List (Addr × Nat)) : Prop := ∀ y ∈ xs, ∃ dx n c da, H y.1 = some (.ins C dx (qf n c da y.2))
section
variable {P : Program} {w : World} {K : PySem.W.Frag} {mg : Str → Option Value} {base : Heap} {t : Adr}
def sp_is_quiet (t : Adr) : Sp := fun vs H Q _ => ∃ (a dx wa ka : Addr) (ad we cr he ch lo : Nat) (xs ys : List V), vs = [.ref a] ∧ H a = some (.ins t.CGuest dx (gf ad we cr wa ka he ch lo)) ∧ H wa = some (.lst xs) ∧ H ka = some (.lst ys) ∧ Q (.bl (xs.isEmpty && ys.isEmpty)) H
theorem ok_is_quiet (T : Txt K mg t) : FnOk P w K mg base CX0 1 t.fis_quiet t.dis_quiet ["guest"] (sp_is_quiet t) := by
  refine T.Fis_quiet.ok sc_is_quiet (fun vs H Q E h => ?_) (fun cdv A outer s H vs Q E hr h => ?_)
  · obtain ⟨a, dx, wa, ka, ad, we, cr, he, ch, lo, xs, ys, rfl, _⟩ := h; rfl
  · obtain ⟨a, dx, wa, ka, ad, we, cr, he, ch, lo, xs, ys, rfl, ha, hw, hk, k⟩ := h
    refine ⟨_, (pss_one (ps_ret (pe_and (pe_cmpR op_eq (pe_callB call_len_seq (by rfl) T.len PySem.boot_len (pa_cons (pe_fld (pv 0) rfl) pa_nil)) pe_int (nomark _)) (pe_one (pe_cmpR op_eq (pe_callB call_len_seq (by rfl) T.len PySem.boot_len (pa_cons (pe_fld (pv 0) rfl) pa_nil)) pe_int (nomark _)))))), ?_⟩
    rw [← len_zero xs, ← len_zero ys] at k
    refine ⟨_, rfl, a, _, _, _, _, rfl, ha, T.clGuest, T.nGuest_waiting, rfl, wa, xs, rfl, .inl (SqL.of hw), rfl, _, rfl, and_step k fun k => ?_⟩
    exact ⟨_, rfl, a, _, _, _, _, rfl, ha, T.clGuest, T.nGuest_working, rfl, ka, ys, rfl, .inl (SqL.of hk), rfl, k⟩
def sp_find_request (t : Adr) : Sp := fun vs H Q _ => ∃ (l : Addr) (n : Nat) (xs : List (Addr × Nat)), vs = [.ref l, nv n] ∧ H l = some (.lst (refs xs)) ∧ ReqNo t.CRequest H xs ∧ ∀ v, (v = V.non ↔ ¬ n ∈ xs.map (·.2)) → Q v H
theorem ok_find_request (T : Txt K mg t) : FnOk P w K mg base CX0 1 t.ffind_request t.dfind_request ["requests", "number"] (sp_find_request t) := by
  refine T.Ffind_request.ok sc_find_request (fun vs H Q E h => ?_) (fun cdv A outer s H vs Q E hr h => ?_)
  · obtain ⟨l, n, xs, rfl, _⟩ := h; rfl
  · obtain ⟨l, n, xs, rfl, hl, hx, k⟩ := h
    refine ⟨_, (pss_cons (ps_for PassesOwn.never rfl (pi_list (pv 0)) (pg_name (i := 2) sc_find_request.nd rfl (Or.inl rfl)) (pss_one (ps_if (pt_cmpR op_eq (pe_fld (pv 2) rfl) (pv 1) (nomark _)) (pss_one (ps_ret (pv 2))) pss_nil)))
      (pss_one (ps_ret pe_non))), ?_⟩
    refine ⟨_, rfl, l, rfl, ⟨_, SqL.of hl⟩, for_list (K := K) (a := l) (xs := refs xs) (fun i σ H2 => ∃ v : Option V, σ = [some (.ref l), some (nv n), v] ∧ H2 = H ∧ ¬ n ∈ (xs.take i).map (·.2)) ⟨none, rfl, rfl, by simp⟩ (fun i σ H2 _ ⟨_, _, e, _⟩ => by rw [e]; exact SqL.of hl) ?_ ?_⟩
    · rintro i y σ H2 hi ⟨v, rfl, rfl, hn⟩
      obtain ⟨y, hy, hm, rfl⟩ := refs_get hi
      obtain ⟨dx, c, da, s, h1⟩ := hx y hm
      refine ⟨_, rfl, y.1, _, _, _, _, rfl, h1, T.clRequest, T.nRequest_number, rfl, _, rfl, rfl, _, rfl, ?_⟩
      refine ite2 (fun z => ?_) (fun z => ?_)
      · have z1 := V.int.inj (of_decide_eq_true z)
        have z2 : y.2 = n := by omega
        refine ⟨_, rfl, k _ ⟨fun q => (nomatch q), fun q => absurd (List.mem_map.mpr ⟨y, hm, z2⟩) q⟩⟩
      · refine ⟨some (V.ref y.1), rfl, rfl, ?_⟩
        rw [take_succ_of hy, List.map_append, List.mem_append]
        rintro (q | q)
        · exact hn q
        · simp at q
          exact z (decide_eq_true (by rw [q]))
    · rintro σ H2 ⟨v, rfl, rfl, hn⟩
      refine k _ ⟨fun _ => ?_, fun _ => rfl⟩
      have e : xs.take (refs xs).length = xs := List.take_of_length_le (by simp [refs])
      rw [e] at hn
      exact hn
theorem keep_some {K : PySem.W.Frag} {H : Hp} {l D : Addr} {xs : List (Addr × Nat)} {p : Nat → Bool} {g : TG} {tt : TT} {te : TE} {vs : List Nat} {σ : St} {Qd : Hp → Prop} (hl : H l = some (.lst (refs xs))) (hD : H D = none) (hz : xs.length < sizeLine)
    (hs : ∀ (y : Addr × Nat) (H2 : Hp) (N : Hp → Prop), y ∈ xs → (∀ b u, H b = some u → H2 b = some u) → (∃ acc, H2 D = some (.lst acc) ∧ acc.length < sizeLine) → (p y.2 = true → ∃ acc, H2 D = some (.lst acc) ∧ acc.length < sizeLine ∧ N (upd H2 D (.lst (acc ++ [V.ref y.1])))) → (p y.2 = false → N H2) →
      g (V.ref y.1) (wipe σ vs) H2 fun σ2 H3 => wipe σ2 vs = wipe σ vs ∧ tt σ2 H3 fun b H4 => if b = true then te σ2 H4 fun z H5 => ∃ acc, H5 D = some (.lst acc) ∧ acc.length < sizeLine ∧ N (upd H5 D (.lst (acc ++ [z]))) else N H4)
    (hd : Qd (upd H D (.lst (refs (xs.filter fun y => p y.2))))) :
    ∃ W : Nat → Nat → Hp → Prop, (∃ m, W 0 m (upd H D (.lst []))) ∧ ∀ i m H, W i m H →
      ((Itl K l).stop i H ∧ Qd H) ∨ ((Itl K l).go i H ∧ ∃ Nx : Hp → Prop, (∀ H', Nx H' → ∃ m', m' < m ∧ W (i + 1) m' H') ∧ ∀ x H', (Itl K l).yld i H x H' → g x (wipe σ vs) H' fun σ2 H2 => wipe σ2 vs = wipe σ vs ∧ tt σ2 H2 fun b H3 =>
        if b = true then te σ2 H3 fun y H4 => ∃ acc, H4 D = some (.lst acc) ∧ acc.length < sizeLine ∧ Nx (upd H4 D (.lst (acc ++ [y]))) else Nx H3) := by
  have nl : l ≠ D := ne_of_none hl hD
  have eD : ∀ ys : List V, ∀ b u, H b = some u → (upd H D (.lst ys)) b = some u := fun ys b u h => by rw [upd_ne (ne_of_none h hD)]; exact h
  refine lc_list (K := K) (a := l) (xs := refs xs) (fun i H2 => H2 = upd H D (.lst (refs ((xs.take i).filter fun y => p y.2)))) (by simp [refs]) (fun i H2 _ e => by rw [e]; exact SqL.of (eD _ _ _ hl)) ?_ ?_
  · rintro i x H2 hi rfl
    obtain ⟨y, hy, hm, rfl⟩ := refs_get hi
    have hlen : (refs ((xs.take i).filter fun y => p y.2)).length < sizeLine := by
      unfold refs
      rw [List.length_map]
      have := List.length_filter_le (fun y : Addr × Nat => p y.2) (xs.take i)
      have : (xs.take i).length ≤ xs.length := by rw [List.length_take]; omega
      omega
    refine hs y _ (fun H' => H' = upd H D (.lst (refs ((xs.take (i + 1)).filter fun y => p y.2)))) hm (eD _) ⟨_, upd_same, hlen⟩ (fun z => ⟨_, upd_same, hlen, ?_⟩) (fun z => ?_)
    · rw [upd_upd, take_succ_of hy, List.filter_append]
      congr 2
      simp [refs, z]
    · rw [take_succ_of hy, List.filter_append]
      congr 2
      simp [refs, z]
  · rintro H2 rfl
    have e : xs.take (refs xs).length = xs := List.take_of_length_le (by simp [refs])
    rw [e]
    exact hd
def sp_without_request (t : Adr) : Sp := fun vs H Q _ => ∃ (l : Addr) (n : Nat) (xs : List (Addr × Nat)), vs = [.ref l, nv n] ∧ H l = some (.lst (refs xs)) ∧ ReqNo t.CRequest H xs ∧ xs.length < sizeLine ∧ ∀ D, H D = none → Q (.ref D) (upd H D (.lst (refs (xs.filter fun y => y.2 != n))))
theorem ok_without_request (T : Txt K mg t) : FnOk P w K mg base CX0 1 t.fwithout_request t.dwithout_request ["requests", "number"] (sp_without_request t) := by
  refine T.Fwithout_request.ok sc_without_request (fun vs H Q E h => ?_) (fun cdv A outer s H vs Q E hr h => ?_)
  · obtain ⟨l, n, xs, rfl, _⟩ := h; rfl
  · obtain ⟨l, n, xs, rfl, hl, hx, hz, k⟩ := h
    refine ⟨_, (pss_one (ps_ret (pe_lc (own := [("request", 2)]) rfl sc_without_request.nd (pi_list (pv 0)) (blkOk_by (by rfl)) (by intros; exact pg_name (i := 2) sc_without_request.nd rfl (Or.inl rfl)) (by intros; exact (pts_one (pt_cmpR op_ne (pe_fldk K (pv 2) rfl) (pv 1) (nomark _)))) (by intros; exact (pv 2))))), ?_⟩
    refine ⟨_, rfl, l, rfl, ⟨_, SqL.of hl⟩, fun D hD => keep_some (p := fun m => m != n) hl hD hz ?_ (k D hD)⟩
    rintro y H2 N hm hk hacc h1 h2
    obtain ⟨dx, c, da, s, hy⟩ := hx y hm
    refine ⟨rfl, _, rfl, y.1, _, _, _, _, rfl, hk _ _ hy, T.clRequest, T.nRequest_number, rfl, _, rfl, rfl, _, rfl, ?_⟩
    refine ite2 (fun z => ?_) (fun z => ?_)
    · refine ⟨_, rfl, h1 ?_⟩
      simp only [Bool.not_eq_true', decide_eq_false_iff_not] at z
      simp only [bne_iff_ne, ne_eq]
      intro q
      exact z (by rw [q])
    · refine h2 ?_
      simp only [Bool.not_eq_true', decide_eq_false_iff_not, Decidable.not_not] at z
      have z1 := V.int.inj z
      have z2 : y.2 = n := by omega
      simp [z2]
def sp_late_requests (t : Adr) : Sp := fun vs H Q _ => ∃ (l : Addr) (n m : Nat) (xs : List (Addr × Nat)), vs = [.ref l, nv n, nv m] ∧ H l = some (.lst (refs xs)) ∧ ReqSince t.CRequest H xs ∧ xs.length < sizeLine ∧ ∀ D, H D = none → Q (.ref D) (upd H D (.lst (refs (xs.filter fun y => decide (y.2 + m ≤ n)))))
theorem ok_late_requests (T : Txt K mg t) : FnOk P w K mg base CX0 1 t.flate_requests t.dlate_requests ["requests", "now", "limit"] (sp_late_requests t) := by
  refine T.Flate_requests.ok sc_late_requests (fun vs H Q E h => ?_) (fun cdv A outer s H vs Q E hr h => ?_)
  · obtain ⟨l, n, m, xs, rfl, _⟩ := h; rfl
  · obtain ⟨l, n, m, xs, rfl, hl, hx, hz, k⟩ := h
    refine ⟨_, (pss_one (ps_ret (pe_lc (own := [("request", 3)]) rfl sc_late_requests.nd (pi_list (pv 0)) (blkOk_by (by rfl)) (by intros; exact pg_name (i := 3) sc_late_requests.nd rfl (Or.inl rfl)) (by intros; exact (pts_one (pt_cmpR op_ge (pe_op op_sub (pv 1) (pe_fldk K (pv 3) rfl)) (pv 2) (nomark _)))) (by intros; exact (pv 3))))), ?_⟩
    refine ⟨_, rfl, l, rfl, ⟨_, SqL.of hl⟩, fun D hD => keep_some (p := fun z => decide (z + m ≤ n)) hl hD hz ?_ (k D hD)⟩
    rintro y H2 N hm hk hacc h1 h2
    obtain ⟨dx, nn, c, da, hy⟩ := hx y hm
    refine ⟨rfl, _, rfl, _, rfl, y.1, _, _, _, _, rfl, hk _ _ hy, T.clRequest, T.nRequest_since, rfl, _, _, rfl, rfl, _, rfl, _, _, rfl, rfl, _, rfl, ?_⟩
    refine ite2 (fun z => ?_) (fun z => ?_)
    · refine ⟨_, rfl, h1 ?_⟩
      have z1 := of_decide_eq_true z
      exact decide_eq_true (by omega)
    · refine h2 ?_
      refine decide_eq_false fun q => z (decide_eq_true (by omega))
def sp_timely_requests (t : Adr) : Sp := fun vs H Q _ => ∃ (l : Addr) (n m : Nat) (xs : List (Addr × Nat)), vs = [.ref l, nv n, nv m] ∧ H l = some (.lst (refs xs)) ∧ ReqSince t.CRequest H xs ∧ xs.length < sizeLine ∧ ∀ D, H D = none → Q (.ref D) (upd H D (.lst (refs (xs.filter fun y => !decide (y.2 + m ≤ n)))))
theorem ok_timely_requests (T : Txt K mg t) : FnOk P w K mg base CX0 1 t.ftimely_requests t.dtimely_requests ["requests", "now", "limit"] (sp_timely_requests t) := by
  refine T.Ftimely_requests.ok sc_timely_requests (fun vs H Q E h => ?_) (fun cdv A outer s H vs Q E hr h => ?_)
  · obtain ⟨l, n, m, xs, rfl, _⟩ := h; rfl
  · obtain ⟨l, n, m, xs, rfl, hl, hx, hz, k⟩ := h
    refine ⟨_, (pss_one (ps_ret (pe_lc (own := [("request", 3)]) rfl sc_timely_requests.nd (pi_list (pv 0)) (blkOk_by (by rfl)) (by intros; exact pg_name (i := 3) sc_timely_requests.nd rfl (Or.inl rfl)) (by intros; exact (pts_one (pt_cmpR op_lt (pe_op op_sub (pv 1) (pe_fldk K (pv 3) rfl)) (pv 2) (nomark _)))) (by intros; exact (pv 3))))), ?_⟩
    refine ⟨_, rfl, l, rfl, ⟨_, SqL.of hl⟩, fun D hD => keep_some (p := fun z => !decide (z + m ≤ n)) hl hD hz ?_ (k D hD)⟩
    rintro y H2 N hm hk hacc h1 h2
    obtain ⟨dx, nn, c, da, hy⟩ := hx y hm
    refine ⟨rfl, _, rfl, _, rfl, y.1, _, _, _, _, rfl, hk _ _ hy, T.clRequest, T.nRequest_since, rfl, _, _, rfl, rfl, _, rfl, _, _, rfl, rfl, _, rfl, ?_⟩
    refine ite2 (fun z => ?_) (fun z => ?_)
    · refine ⟨_, rfl, h1 ?_⟩
      have z1 := of_decide_eq_true z
      rw [Bool.not_eq_true']
      exact decide_eq_false (by omega)
    · refine h2 ?_
      rw [Bool.not_eq_false']
      refine decide_eq_true ?_
      by_cases q : y.2 + m ≤ n
      · exact q
      · exact absurd (decide_eq_true (by omega)) z
def sp_refill_chances (t : Adr) : Sp := fun vs H Q _ => ∃ (a dx wa ka : Addr) (ad we cr he ch lo now rate burst : Nat), vs = [.ref a, nv now, nv rate, nv burst] ∧ H a = some (.ins t.CGuest dx (gf ad we cr wa ka he ch lo)) ∧ lo ≤ now ∧ rate ≤ 1000000 ∧ burst ≤ 1000 ∧
  Q .non (upd H a (.ins t.CGuest dx (gf ad we cr wa ka he (min (1000 * burst) (ch + rate * (now - lo))) now)))
theorem ok_refill_chances (T : Txt K mg t) : FnOk P w K mg base CX0 1 t.frefill_chances t.drefill_chances ["guest", "now", "rate", "burst"] (sp_refill_chances t) := by
  refine T.Frefill_chances.ok sc_refill_chances (fun vs H Q E h => ?_) (fun cdv A outer s H vs Q E hr h => ?_)
  · obtain ⟨a, dx, wa, ka, ad, we, cr, he, ch, lo, now, rate, burst, rfl, _⟩ := h; rfl
  · obtain ⟨a, dx, wa, ka, ad, we, cr, he, ch, lo, now, rate, burst, rfl, ha, hn, hra, hbu, k⟩ := h
    refine ⟨_, (pss_cons (ps_set (i := 4) sc_refill_chances.nd rfl (Or.inl rfl) (pe_op op_mul (pv 2) (pe_op op_sub (pv 1) (pe_fld (pv 0) rfl))))
      (pss_cons (ps_fld (pv 0) (pe_callB (call_min2 rfl) (by rfl) T.min PyProof.Rows.boot_min (pa_cons (pe_op op_add (pe_fld (pv 0) rfl) (pv 4)) (pa_cons (pe_op op_mul pe_int (pv 3)) pa_nil))) rfl)
      (pss_one (ps_fld (pv 0) (pv 1) rfl)))), ?_⟩
    refine ⟨_, rfl, _, rfl, _, rfl, a, _, _, _, _, rfl, ha, T.clGuest, T.nGuest_looked_at, rfl, _, _, rfl, rfl, _, _, rfl, rfl, .inl ⟨by omega, by omega⟩, ?_⟩
    refine ⟨_, rfl, a, _, _, _, _, rfl, ha, T.clGuest, T.nGuest_chances, rfl, _, rfl, _, _, rfl, rfl, _, rfl, _, _, rfl, rfl, .inl ⟨by decide, by decide⟩, _, _, rfl, _, rfl, a, _, dx, _, rfl, ha, T.clGuest, T.nGuest_chances, (by show 8 < 1000; decide), ?_⟩
    refine ⟨_, rfl, _, rfl, a, _, dx, _, rfl, upd_same, T.clGuest, T.nGuest_looked_at, (by show 8 < 1000; decide), ?_⟩
    rw [upd_upd]
    have e : (if 1000 * (burst : Int) < (ch : Int) + (rate : Int) * ((now : Int) - (lo : Int)) then 1000 * (burst : Int) else (ch : Int) + (rate : Int) * ((now : Int) - (lo : Int))) = ((min (1000 * burst) (ch + rate * (now - lo)) : Nat) : Int) := by
      have e1 : (rate : Int) * ((now : Int) - (lo : Int)) = ((rate * (now - lo) : Nat) : Int) := by
        rw [Int.natCast_mul, Int.natCast_sub hn]
      rw [e1]
      split <;> omega
    have k' : Q .non (upd H a (.ins t.CGuest dx (gf ad we cr wa ka he (min (1000 * burst) (ch + rate * (now - lo))) now))) := k
    unfold gf nv at k'
    rw [← e] at k'
    exact k'
end
end Fd
end
section
namespace Fd
open PySem L2 Sw55
def KeepW (o : Own) (H : Hp) (o' : Own) (H' : Hp) : Prop := ∀ b u, H b = some u → o b ≠ .srv → o b ≠ .wants → H' b = some u ∧ o' b = o b
theorem KeepW.refl (o : Own) (H : Hp) : KeepW o H o H := fun _ _ h _ _ => ⟨h, rfl⟩
theorem KeepW.trans {o o1 o2 : Own} {H H1 H2 : Hp} (a : KeepW o H o1 H1) (b : KeepW o1 H1 o2 H2) : KeepW o H o2 H2 := fun x u h z y => by
  obtain ⟨h1, e1⟩ := a x u h z y
  obtain ⟨h2, e2⟩ := b x u h1 (by rw [e1]; exact z) (by rw [e1]; exact y)
  exact ⟨h2, e2.trans e1⟩
theorem KeepW.ext {o o' : Own} {H H' : Hp} (a : KeepW o H o' H') : Ext o H o' H' := fun x u h z => a x u h (by rcases z with z | z <;> rw [z] <;> intro q <;> cases q) (by rcases z with z | z <;> rw [z] <;> intro q <;> cases q)
section
variable {c : Cl} {o o' : Own} {H H' : Hp} {A : SA} {s s' : Server} {W W' : List Want} {ws' : List Addr}
theorem Rep.srvw (h : Rep c o H A s W) (keep : ∀ b u, H b = some u → o b ≠ .out → o b ≠ .srv → o b ≠ .wants → H' b = some u ∧ o' b = o b) (dom' : ∀ b, o' b ≠ .out → H' b ≠ none)
    (hc : s'.conns = s.conns) (hr : s'.rules = s.rules) (hrow : s'.row = s.row) (hn : s.now ≤ s'.now)
    (sv : ∃ dx ge, H' A.p = some (.ins c.CS dx (sf (rv s' A.u) s'.now A.d A.r s'.ends.isSome ge s'.asked s'.answered s'.refused A.w)) ∧ ∀ e, s'.ends = some e → ge = e) (os : o' A.p = .srv)
    (wl : H' A.w = some (.lst (ws'.map V.ref))) (ow : o' A.w = .wants) (ws : Paired (fun a w => H' a = some (.lst (w.numbers.map nv)) ∧ o' a = .data) ws' W') : Rep c o' H' { A with ws := ws' } s' W' := by
  have k : ∀ {b : Addr} {u : HO} {r : Role}, H b = some u → o b = r → r ≠ .out → r ≠ .srv → r ≠ .wants → H' b = some u ∧ o' b = o b := fun hb e n1 n2 n3 => keep _ _ hb (by rw [e]; exact n1) (by rw [e]; exact n2) (by rw [e]; exact n3)
  obtain ⟨b1, b2⟩ := k h.di h.od (by intro q; cases q) (by intro q; cases q) (by intro q; cases q)
  obtain ⟨c1, c2⟩ := k h.rl h.orow (by intro q; cases q) (by intro q; cases q) (by intro q; cases q)
  refine ⟨dom', sv, os, fun r e => ?_, b1, b2.trans h.od, by rw [hrow]; exact c1, c2.trans h.orow, wl, ow, ws, by rw [hc]; exact h.ky, fun g hg => ?_⟩
  · obtain ⟨⟨dy, e1⟩, e2⟩ := h.ru r (by rw [← hr]; exact e)
    obtain ⟨e3, e4⟩ := k e1 e2 (by intro q; cases q) (by intro q; cases q) (by intro q; cases q)
    exact ⟨⟨dy, e3⟩, e4.trans e2⟩
  · obtain ⟨x, hx, z⟩ := h.gu g hg
    refine ⟨x, by rw [hc]; exact hx, ?_⟩
    rw [hr]
    refine z.keep hn fun b u hb q => keep b u hb ?_ ?_ ?_
    all_goals (rcases q with q | q <;> intro e <;> rw [e] at q <;> cases q)
theorem paired_snoc {α β : Type} {F : α → β → Prop} : ∀ {l : List α} {m : List β} {a : α} {b : β}, Paired F l m → F a b → Paired F (l ++ [a]) (m ++ [b])
  | _, _, _, _, .nil, h => .cons h .nil
  | _, _, _, _, .cons r t, h => .cons r (paired_snoc t h)
theorem Rep.want (h : Rep c o H A s W) {H1 : Hp} {y dx : Addr} {ge : Nat} {wt : Want} (hy : H y = none) (h1 : ∀ b u, H b = some u → b ≠ A.p → H1 b = some u) (hy1 : H1 y = some (.lst (wt.numbers.map nv)))
    (hc : s'.conns = s.conns) (hr : s'.rules = s.rules) (hrow : s'.row = s.row) (hn : s'.now = s.now) (he : s'.ends = s.ends) (hge : ∀ e, s.ends = some e → ge = e)
    (hp : H1 A.p = some (.ins c.CS dx (sf (rv s A.u) s.now A.d A.r s.ends.isSome ge s'.asked s'.answered s'.refused A.w))) :
    Rep c (setR o y .data) (upd H1 A.w (.lst (A.ws.map V.ref ++ [V.ref y]))) { A with ws := A.ws ++ [y] } s' (W ++ [wt]) ∧ KeepW o H (setR o y .data) (upd H1 A.w (.lst (A.ws.map V.ref ++ [V.ref y]))) := by
  have npw : A.p ≠ A.w := ne_role h.os h.ow (by intro q; cases q)
  have nyw : y ≠ A.w := fun e => by rw [e, h.wl] at hy; cases hy
  have nyp : y ≠ A.p := fun e => by
    obtain ⟨_, _, q, _⟩ := h.sv
    rw [e, q] at hy; cases hy
  have kp : KeepW o H (setR o y .data) (upd H1 A.w (.lst (A.ws.map V.ref ++ [V.ref y]))) := fun b u hb n1 n2 => by
    have nb : b ≠ A.w := fun e => n2 (by rw [e]; exact h.ow)
    have ny : b ≠ y := ne_of_none hb hy
    exact ⟨by rw [upd_ne nb]; exact h1 b u hb fun e => n1 (by rw [e]; exact h.os), setR_ne ny⟩
  refine ⟨?_, kp⟩
  refine h.srvw (fun b u hb _ n1 n2 => kp b u hb n1 n2) ?_ hc hr hrow (by rw [hn]; exact Nat.le_refl _) ⟨dx, ge, ?_, by rw [he]; exact hge⟩ (by rw [setR_ne nyp.symm]; exact h.os) ?_ (by rw [setR_ne nyw.symm]; exact h.ow) ?_
  · intro b n
    by_cases e1 : b = A.w
    · rw [e1, upd_same]; intro q; cases q
    · rw [upd_ne e1]
      by_cases e2 : b = y
      · rw [e2, hy1]; intro q; cases q
      · rw [setR_ne e2] at n
        by_cases e3 : b = A.p
        · rw [e3, hp]; intro q; cases q
        · cases z : H b with
          | none => exact absurd z (h.dom b n)
          | some u => rw [h1 b u z e3]; intro q; cases q
  · rw [upd_ne npw]
    have e : rv s' A.u = rv s A.u := by unfold rv; rw [hr]
    rw [e, hn, he]
    exact hp
  · rw [upd_same, List.map_append]; rfl
  · refine paired_snoc (paired_imp h.ws fun a w _ _ z => ?_) ⟨by rw [upd_ne nyw]; exact hy1, setR_same⟩
    obtain ⟨z1, z2⟩ := z
    obtain ⟨z3, z4⟩ := kp a _ z1 (by rw [z2]; intro q; cases q) (by rw [z2]; intro q; cases q)
    exact ⟨z3, z4.trans z2⟩
end
section
variable {P : Program} {w : World} {K : PySem.W.Frag} {mg : Str → Option Value} {base : Heap} {t : Adr}
def AddsWant (t : Adr) (o : Own) (H : Hp) (A : SA) (s' : Server) (W : List Want) (wt : Want) (Q : VK) : Prop :=
  ∀ (y : Addr) (o' : Own) (H' : Hp), Rep (clOf t) o' H' { A with ws := A.ws ++ [y] } s' (W ++ [wt]) → KeepW o H o' H' → Q .non H'
def sp_want_tell (t : Adr) : Sp := fun vs H Q _ => ∃ (o : Own) (A : SA) (s : Server) (W : List Want) (k n why : Nat), vs = [.ref A.p, nv k, nv n, nv why] ∧ Rep (clOf t) o H A s W ∧ W.length < sizeLine ∧ AddsWant t o H A { s with refused := s.refused + 1 } W (.tell k n why) Q
theorem ok_want_tell (T : Txt K mg t) : FnOk P w K mg base CX0 1 t.fwant_tell t.dwant_tell ["server", "who", "number", "why"] (sp_want_tell t) := by
  refine T.Fwant_tell.ok sc_want_tell (fun vs H Q E h => ?_) (fun cdv A outer s H vs Q E hr h => ?_)
  · obtain ⟨o, A, s, W, k, n, why, rfl, _⟩ := h; rfl
  · obtain ⟨o, A, s, W, k, n, why, rfl, R, hl, q⟩ := h
    refine ⟨_, (pss_cons (ps_fld (pv 0) (pe_op op_add (pe_fld (pv 0) rfl) pe_int) rfl)
      (pss_one (ps_expr (pe_bm PySem.F.plainAttrs_list PySem.F.slot_list_append PySem.F.type_list_append mt_append (pe_fld (pv 0) rfl) (pa_cons (pe_lst (pa_cons pe_int (pa_cons (pv 1) (pa_cons (pv 2) (pa_cons (pv 3) pa_nil))))) pa_nil))))), ?_⟩
    obtain ⟨dx, ge, hp, hge⟩ := R.sv
    have npw : A.p ≠ A.w := ne_role R.os R.ow (by intro q; cases q)
    refine ⟨_, rfl, A.p, _, _, _, _, rfl, hp, T.clServer, T.nServer_told_off, rfl, _, _, rfl, rfl, _, rfl, A.p, _, dx, _, rfl, hp, T.clServer, T.nServer_told_off, (by show 10 < 1000; decide), ?_⟩
    have hw1 : (upd H A.p (.ins t.CServer dx (sf (rv s A.u) s.now A.d A.r s.ends.isSome ge s.asked s.answered (s.refused + 1) A.w))) A.w = some (.lst (A.ws.map V.ref)) := by rw [upd_ne npw.symm]; exact R.wl
    refine ⟨_, rfl, A.p, _, dx, _, _, rfl, upd_same, T.clServer, T.nServer_wants, rfl, .inl ⟨rfl, _, SqL.of hw1⟩, _, rfl, _, rfl, _, rfl, (by show 4 ≤ sizeLine; decide), fun y hy => ?_⟩
    have hy0 : H y = none := by
      by_cases e : y = A.p
      · rw [e, upd_same] at hy; cases hy
      · rw [upd_ne e] at hy; exact hy
    have nwy : A.w ≠ y := ne_of_none R.wl hy0
    have npy : A.p ≠ y := ne_of_none hp hy0
    refine ⟨A.w, _, _, rfl, rfl, (by rw [upd_ne nwy]; exact hw1), (by rw [List.length_map, R.ws.length]; exact hl), ?_⟩
    have z := R.want (s' := { s with refused := s.refused + 1 }) (H1 := upd (upd H A.p (.ins t.CServer dx (sf (rv s A.u) s.now A.d A.r s.ends.isSome ge s.asked s.answered (s.refused + 1) A.w))) y (.lst [.int 2, nv k, nv n, nv why])) (wt := .tell k n why) hy0
      (fun b u hb nb => by rw [upd_ne (ne_of_none hb hy0), upd_ne nb]; exact hb) upd_same rfl rfl rfl rfl rfl hge (by rw [upd_ne npy]; exact upd_same)
    exact q y _ _ z.1 z.2
def sp_want_cancel (t : Adr) : Sp := fun vs H Q _ => ∃ (o : Own) (A : SA) (s : Server) (W : List Want) (k n : Nat), vs = [.ref A.p, nv k, nv n] ∧ Rep (clOf t) o H A s W ∧ W.length < sizeLine ∧ AddsWant t o H A s W (.cancel k n) Q
theorem ok_want_cancel (T : Txt K mg t) : FnOk P w K mg base CX0 1 t.fwant_cancel t.dwant_cancel ["server", "who", "number"] (sp_want_cancel t) := by
  refine T.Fwant_cancel.ok sc_want_cancel (fun vs H Q E h => ?_) (fun cdv A outer s H vs Q E hr h => ?_)
  · obtain ⟨o, A, s, W, k, n, rfl, _⟩ := h; rfl
  · obtain ⟨o, A, s, W, k, n, rfl, R, hl, q⟩ := h
    refine ⟨_, (pss_one (ps_expr (pe_bm PySem.F.plainAttrs_list PySem.F.slot_list_append PySem.F.type_list_append mt_append (pe_fld (pv 0) rfl) (pa_cons (pe_lst (pa_cons pe_int (pa_cons (pv 1) (pa_cons (pv 2) pa_nil)))) pa_nil)))), ?_⟩
    obtain ⟨dx, ge, hp, hge⟩ := R.sv
    refine ⟨_, rfl, A.p, _, dx, _, _, rfl, hp, T.clServer, T.nServer_wants, rfl, .inl ⟨rfl, _, SqL.of R.wl⟩, _, rfl, _, rfl, (by show 3 ≤ sizeLine; decide), fun y hy => ?_⟩
    have nwy : A.w ≠ y := ne_of_none R.wl hy
    have npy : A.p ≠ y := ne_of_none hp hy
    refine ⟨A.w, _, _, rfl, rfl, (by rw [upd_ne nwy]; exact R.wl), (by rw [List.length_map, R.ws.length]; exact hl), ?_⟩
    have z := R.want (s' := s) (H1 := upd H y (.lst [.int 3, nv k, nv n])) (wt := .cancel k n) hy (fun b u hb nb => by rw [upd_ne (ne_of_none hb hy)]; exact hb) upd_same rfl rfl rfl rfl rfl hge (by rw [upd_ne npy]; exact hp)
    exact q y _ _ z.1 z.2
def sp_want_close (t : Adr) : Sp := fun vs H Q _ => ∃ (o : Own) (A : SA) (s : Server) (W : List Want) (k why : Nat), vs = [.ref A.p, nv k, nv why] ∧ Rep (clOf t) o H A s W ∧ W.length < sizeLine ∧ AddsWant t o H A s W (.close k why) Q
theorem ok_want_close (T : Txt K mg t) : FnOk P w K mg base CX0 1 t.fwant_close t.dwant_close ["server", "who", "why"] (sp_want_close t) := by
  refine T.Fwant_close.ok sc_want_close (fun vs H Q E h => ?_) (fun cdv A outer s H vs Q E hr h => ?_)
  · obtain ⟨o, A, s, W, k, n, rfl, _⟩ := h; rfl
  · obtain ⟨o, A, s, W, k, n, rfl, R, hl, q⟩ := h
    refine ⟨_, (pss_one (ps_expr (pe_bm PySem.F.plainAttrs_list PySem.F.slot_list_append PySem.F.type_list_append mt_append (pe_fld (pv 0) rfl) (pa_cons (pe_lst (pa_cons pe_int (pa_cons (pv 1) (pa_cons (pv 2) pa_nil)))) pa_nil)))), ?_⟩
    obtain ⟨dx, ge, hp, hge⟩ := R.sv
    refine ⟨_, rfl, A.p, _, dx, _, _, rfl, hp, T.clServer, T.nServer_wants, rfl, .inl ⟨rfl, _, SqL.of R.wl⟩, _, rfl, _, rfl, (by show 3 ≤ sizeLine; decide), fun y hy => ?_⟩
    have nwy : A.w ≠ y := ne_of_none R.wl hy
    have npy : A.p ≠ y := ne_of_none hp hy
    refine ⟨A.w, _, _, rfl, rfl, (by rw [upd_ne nwy]; exact R.wl), (by rw [List.length_map, R.ws.length]; exact hl), ?_⟩
    have z := R.want (s' := s) (H1 := upd H y (.lst [.int 4, nv k, nv n])) (wt := .close k n) hy (fun b u hb nb => by rw [upd_ne (ne_of_none hb hy)]; exact hb) upd_same rfl rfl rfl rfl rfl hge (by rw [upd_ne npy]; exact hp)
    exact q y _ _ z.1 z.2
def sp_want_answer (t : Adr) : Sp := fun vs H Q _ => ∃ (o : Own) (A : SA) (s : Server) (W : List Want) (k n : Nat) (da : Addr) (bs : List Nat), vs = [.ref A.p, nv k, nv n, .ref da] ∧ Rep (clOf t) o H A s W ∧ W.length < sizeLine ∧
  H da = some (.lst (bs.map nv)) ∧ da ≠ A.p ∧ bs.length ≤ 100000 ∧ AddsWant t o H A { s with answered := s.answered + 1 } W (.answer k n bs) Q
theorem ok_want_answer (T : Txt K mg t) : FnOk P w K mg base CX0 1 t.fwant_answer t.dwant_answer ["server", "who", "number", "data"] (sp_want_answer t) := by
  refine T.Fwant_answer.ok sc_want_answer (fun vs H Q E h => ?_) (fun cdv A outer s H vs Q E hr h => ?_)
  · obtain ⟨o, A, s, W, k, n, da, bs, rfl, _⟩ := h; rfl
  · obtain ⟨o, A, s, W, k, n, da, bs, rfl, R, hl, hda, nda, hbs, q⟩ := h
    refine ⟨_, (pss_cons (ps_fld (pv 0) (pe_op op_add (pe_fld (pv 0) rfl) pe_int) rfl)
      (pss_one (ps_expr (pe_bm PySem.F.plainAttrs_list PySem.F.slot_list_append PySem.F.type_list_append mt_append (pe_fld (pv 0) rfl) (pa_cons (pe_op op_cat (pe_lst (pa_cons pe_int (pa_cons (pv 1) (pa_cons (pv 2) (pa_cons (pe_callB call_len_seq (by rfl) T.len PySem.boot_len (pa_cons (pv 3) pa_nil)) pa_nil))))) (pv 3)) pa_nil))))), ?_⟩
    obtain ⟨dx, ge, hp, hge⟩ := R.sv
    have npw : A.p ≠ A.w := ne_role R.os R.ow (by intro q; cases q)
    refine ⟨_, rfl, A.p, _, _, _, _, rfl, hp, T.clServer, T.nServer_answered, rfl, _, _, rfl, rfl, _, rfl, A.p, _, dx, _, rfl, hp, T.clServer, T.nServer_answered, (by show 10 < 1000; decide), ?_⟩
    have hw1 : (upd H A.p (.ins t.CServer dx (sf (rv s A.u) s.now A.d A.r s.ends.isSome ge s.asked (s.answered + 1) s.refused A.w))) A.w = some (.lst (A.ws.map V.ref)) := by rw [upd_ne npw.symm]; exact R.wl
    have hd1 : (upd H A.p (.ins t.CServer dx (sf (rv s A.u) s.now A.d A.r s.ends.isSome ge s.asked (s.answered + 1) s.refused A.w))) da = some (.lst (bs.map nv)) := by rw [upd_ne nda]; exact hda
    refine ⟨_, rfl, A.p, _, dx, _, _, rfl, upd_same, T.clServer, T.nServer_wants, rfl, .inl ⟨rfl, _, SqL.of hw1⟩, _, rfl, _, rfl, _, rfl, da, _, rfl, .inl (SqL.of hd1), (by show 4 ≤ sizeLine; decide), fun x hx => ?_⟩
    have hx0 : H x = none := by
      by_cases e : x = A.p
      · rw [e, upd_same] at hx; cases hx
      · rw [upd_ne e] at hx; exact hx
    have ndx : da ≠ x := ne_of_none hda hx0
    refine ⟨_, rfl, x, da, _, _, rfl, rfl, upd_same, (by rw [upd_ne ndx]; exact hd1), (by rw [List.length_map]; show 4 + bs.length ≤ sizeLine; exact Nat.le_trans (Nat.add_le_add_left hbs 4) (by decide)), fun y hy => ?_⟩
    have nxy : x ≠ y := ne_of_none upd_same hy
    have hy1 : (upd H A.p (.ins t.CServer dx (sf (rv s A.u) s.now A.d A.r s.ends.isSome ge s.asked (s.answered + 1) s.refused A.w))) y = none := by rw [upd_ne nxy.symm] at hy; exact hy
    have hy0 : H y = none := by
      by_cases e : y = A.p
      · rw [e, upd_same] at hy1; cases hy1
      · rw [upd_ne e] at hy1; exact hy1
    have nwy : A.w ≠ y := ne_of_none R.wl hy0
    have npy : A.p ≠ y := ne_of_none hp hy0
    have nwx : A.w ≠ x := ne_of_none R.wl hx0
    have npx : A.p ≠ x := ne_of_none hp hx0
    refine ⟨A.w, _, _, rfl, rfl, (by rw [upd_ne nwy, upd_ne nwx]; exact hw1), (by rw [List.length_map, R.ws.length]; exact hl), ?_⟩
    have z := R.want (s' := { s with answered := s.answered + 1 }) (H1 := upd (upd (upd H A.p (.ins t.CServer dx (sf (rv s A.u) s.now A.d A.r s.ends.isSome ge s.asked (s.answered + 1) s.refused A.w))) x (.lst [.int 1, nv k, nv n, .int ((bs.map nv).length : Nat)])) y (.lst ([.int 1, nv k, nv n, .int ((bs.map nv).length : Nat)] ++ bs.map nv))) (wt := .answer k n bs) hy0
      (fun b u hb nb => by rw [upd_ne (ne_of_none hb hy0), upd_ne (ne_of_none hb hx0), upd_ne nb]; exact hb) (by rw [upd_same, List.length_map]; rfl) rfl rfl rfl rfl rfl hge (by rw [upd_ne npy, upd_ne npx]; exact upd_same)
    exact q y _ _ z.1 z.2
def sp_want_start (t : Adr) : Sp := fun vs H Q _ => ∃ (o : Own) (A : SA) (s : Server) (W : List Want) (k n co si : Nat) (a dy da : Addr) (bs : List Nat), vs = [.ref A.p, nv k, .ref a] ∧ Rep (clOf t) o H A s W ∧ W.length < sizeLine ∧
  H a = some (.ins t.CRequest dy (qf n co da si)) ∧ H da = some (.lst (bs.map nv)) ∧ bs.length ≤ 100000 ∧ AddsWant t o H A s W (.start k n bs) Q
theorem ok_want_start (T : Txt K mg t) : FnOk P w K mg base CX0 1 t.fwant_start t.dwant_start ["server", "who", "request"] (sp_want_start t) := by
  refine T.Fwant_start.ok sc_want_start (fun vs H Q E h => ?_) (fun cdv A outer s H vs Q E hr h => ?_)
  · obtain ⟨o, A, s, W, k, n, co, si, a, dy, da, bs, rfl, _⟩ := h; rfl
  · obtain ⟨o, A, s, W, k, n, co, si, a, dy, da, bs, rfl, R, hl, ha, hda, hbs, q⟩ := h
    refine ⟨_, (pss_one (ps_expr (pe_bm PySem.F.plainAttrs_list PySem.F.slot_list_append PySem.F.type_list_append mt_append (pe_fld (pv 0) rfl) (pa_cons (pe_op op_cat (pe_lst (pa_cons pe_int (pa_cons (pv 1) (pa_cons (pe_fld (pv 2) rfl) (pa_cons (pe_callB call_len_seq (by rfl) T.len PySem.boot_len (pa_cons (pe_fld (pv 2) rfl) pa_nil)) pa_nil))))) (pe_fld (pv 2) rfl)) pa_nil)))), ?_⟩
    obtain ⟨dx, ge, hp, hge⟩ := R.sv
    refine ⟨_, rfl, A.p, _, dx, _, _, rfl, hp, T.clServer, T.nServer_wants, rfl, .inl ⟨rfl, _, SqL.of R.wl⟩, _, rfl, _, rfl, a, _, _, _, _, rfl, ha, T.clRequest, T.nRequest_number, rfl, _, rfl, a, _, _, _, _, rfl, ha, T.clRequest, T.nRequest_data, rfl, da, _, rfl, .inl (SqL.of hda), (by show 4 ≤ sizeLine; decide), fun x hx => ?_⟩
    have ndx : da ≠ x := ne_of_none hda hx
    have nax : a ≠ x := ne_of_none ha hx
    refine ⟨_, rfl, a, _, _, _, _, rfl, (by rw [upd_ne nax]; exact ha), T.clRequest, T.nRequest_data, rfl, x, da, _, _, rfl, rfl, upd_same, (by rw [upd_ne ndx]; exact hda), (by rw [List.length_map]; show 4 + bs.length ≤ sizeLine; exact Nat.le_trans (Nat.add_le_add_left hbs 4) (by decide)), fun y hy => ?_⟩
    have nxy : x ≠ y := ne_of_none upd_same hy
    have hy0 : H y = none := by rw [upd_ne nxy.symm] at hy; exact hy
    have nwy : A.w ≠ y := ne_of_none R.wl hy0
    have npy : A.p ≠ y := ne_of_none hp hy0
    have nwx : A.w ≠ x := ne_of_none R.wl hx
    have npx : A.p ≠ x := ne_of_none hp hx
    refine ⟨A.w, _, _, rfl, rfl, (by rw [upd_ne nwy, upd_ne nwx]; exact R.wl), (by rw [List.length_map, R.ws.length]; exact hl), ?_⟩
    have z := R.want (s' := s) (H1 := upd (upd H x (.lst [.int 0, nv k, nv n, .int ((bs.map nv).length : Nat)])) y (.lst ([.int 0, nv k, nv n, .int ((bs.map nv).length : Nat)] ++ bs.map nv))) (wt := .start k n bs) hy0
      (fun b u hb nb => by rw [upd_ne (ne_of_none hb hy0), upd_ne (ne_of_none hb hx)]; exact hb) (by rw [upd_same, List.length_map]; rfl) rfl rfl rfl rfl rfl hge (by rw [upd_ne npy, upd_ne npx]; exact hp)
    exact q y _ _ z.1 z.2
end
end Fd
end
section
namespace Fd
open PySem L2 Sw55
section
variable {P : Program} {w : World} {K : PySem.W.Frag} {mg : Str → Option Value} {base : Heap} {t : Adr}
def sp_weight_fits : Sp := fun vs H Q _ => ∃ n : Nat, vs = [nv n] ∧ Q (.bl (within n 1 16)) H
theorem ok_weight_fits (T : Txt K mg t) : FnOk P w K mg base CX0 2 t.fweight_fits t.dweight_fits ["weight"] sp_weight_fits := by
  have G_within : FnOk P w K mg base CX0 1 t.fwithin t.dwithin ["number", "least", "most"] sp_within := ok_within T
  refine T.Fweight_fits.ok sc_weight_fits (fun vs H Q E h => ?_) (fun cdv A outer s H vs Q E hr h => ?_)
  · obtain ⟨n, rfl, _⟩ := h; rfl
  · obtain ⟨n, rfl, k⟩ := h
    refine ⟨_, (pss_one (ps_ret (pe_call G_within hr rfl T.mwithin T.Fwithin.kp T.bwithin .nil pass0 (pa_cons (pv 0) (pa_cons pe_int (pa_cons (pe_gi rfl T.cMOST_WEIGHT) pa_nil)))))), ?_⟩
    refine ⟨_, rfl, (n : Int), 1, 16, rfl, ?_⟩
    have e := within_nat n 1 16
    rw [← e] at k
    exact k
def sp_grace_fits : Sp := fun vs H Q _ => ∃ n : Nat, vs = [nv n] ∧ Q (.bl (within n 0 2147483648)) H
theorem ok_grace_fits (T : Txt K mg t) : FnOk P w K mg base CX0 2 t.fgrace_fits t.dgrace_fits ["grace"] sp_grace_fits := by
  have G_within : FnOk P w K mg base CX0 1 t.fwithin t.dwithin ["number", "least", "most"] sp_within := ok_within T
  refine T.Fgrace_fits.ok sc_grace_fits (fun vs H Q E h => ?_) (fun cdv A outer s H vs Q E hr h => ?_)
  · obtain ⟨n, rfl, _⟩ := h; rfl
  · obtain ⟨n, rfl, k⟩ := h
    refine ⟨_, (pss_one (ps_ret (pe_call G_within hr rfl T.mwithin T.Fwithin.kp T.bwithin .nil pass0 (pa_cons (pv 0) (pa_cons pe_int (pa_cons (pe_gi rfl T.cLONGEST_SPAN) pa_nil)))))), ?_⟩
    refine ⟨_, rfl, (n : Int), 0, 2147483648, rfl, ?_⟩
    have e := within_nat n 0 2147483648
    rw [← e] at k
    exact k
def sp_Server_init (t : Adr) : Sp := fun vs H Q _ => ∃ (p dx : Addr), vs = [.ref p] ∧ H p = some (.ins t.CServer dx []) ∧
  ∀ (H' : Hp) (d r w : Addr), H d = none → H r = none → H w = none → d ≠ r → d ≠ w → r ≠ w → H' p = some (.ins t.CServer dx (sf .non 0 d r false 0 0 0 0 w)) → H' d = some (.dK []) → H' r = some (.lst []) → H' w = some (.lst []) → (∀ b, b ≠ p → b ≠ d → b ≠ r → b ≠ w → H' b = H b) → Q .non H'
theorem ok_Server_init (T : Txt K mg t) : FnOk P w K mg base CX0 1 t.fServer_init t.dServer_init ["self"] (sp_Server_init t) := by
  refine T.FServer_init.ok sc_Server_init (fun vs H Q E h => ?_) (fun cdv A outer s H vs Q E hr h => ?_)
  · obtain ⟨p, dx, rfl, _⟩ := h; rfl
  · obtain ⟨p, dx, rfl, hp, k⟩ := h
    refine ⟨_, (pss_cons (ps_fld (pv 0) pe_non rfl)
      (pss_cons (ps_fld (pv 0) pe_int rfl)
      (pss_cons (ps_fld (pv 0) pe_dnewK rfl)
      (pss_cons (ps_fld (pv 0) (pe_lst pa_nil) rfl)
      (pss_cons (ps_fld (pv 0) pe_bl rfl)
      (pss_cons (ps_fld (pv 0) pe_int rfl)
      (pss_cons (ps_fld (pv 0) pe_int rfl)
      (pss_cons (ps_fld (pv 0) pe_int rfl)
      (pss_cons (ps_fld (pv 0) pe_int rfl)
      (pss_one (ps_fld (pv 0) (pe_lst pa_nil) rfl))))))))))), ?_⟩
    refine ⟨_, rfl, p, _, dx, _, rfl, hp, T.clServer, T.nServer_rules, (by show 0 < 1000; decide), ?_⟩
    refine ⟨_, rfl, p, _, dx, _, rfl, upd_same, T.clServer, T.nServer_now, (by show 1 < 1000; decide), ?_⟩
    refine fun d hd => ?_
    have npd : p ≠ d := ne_of_none upd_same hd
    refine ⟨_, rfl, p, _, dx, _, rfl, (by rw [upd_ne npd]; exact upd_same), T.clServer, T.nServer_inside, (by show 2 < 1000; decide), ?_⟩
    refine ⟨(by show 0 ≤ sizeLine; exact Nat.zero_le _), fun r hr => ?_⟩
    have npr : p ≠ r := ne_of_none upd_same hr
    have ndr : d ≠ r := ne_of_none (by rw [upd_ne npd.symm]; exact upd_same) hr
    refine ⟨_, rfl, p, _, dx, _, rfl, (by rw [upd_ne npr]; exact upd_same), T.clServer, T.nServer_row, (by show 3 < 1000; decide), ?_⟩
    refine ⟨_, rfl, p, _, dx, _, rfl, upd_same, T.clServer, T.nServer_ending, (by show 4 < 1000; decide), ?_⟩
    refine ⟨_, rfl, p, _, dx, _, rfl, upd_same, T.clServer, T.nServer_grace_end, (by show 5 < 1000; decide), ?_⟩
    refine ⟨_, rfl, p, _, dx, _, rfl, upd_same, T.clServer, T.nServer_taken, (by show 6 < 1000; decide), ?_⟩
    refine ⟨_, rfl, p, _, dx, _, rfl, upd_same, T.clServer, T.nServer_answered, (by show 7 < 1000; decide), ?_⟩
    refine ⟨_, rfl, p, _, dx, _, rfl, upd_same, T.clServer, T.nServer_told_off, (by show 8 < 1000; decide), ?_⟩
    refine ⟨(by show 0 ≤ sizeLine; exact Nat.zero_le _), fun w hw => ?_⟩
    have npw : p ≠ w := ne_of_none upd_same hw
    simp only [upd_upd] at hw
    have hw1 := hw
    rw [upd_ne npw.symm] at hw1
    have nrw : r ≠ w := ne_of_none upd_same hw1
    rw [upd_ne nrw.symm, upd_ne npw.symm] at hw1
    have ndw : d ≠ w := ne_of_none upd_same hw1
    rw [upd_ne ndw.symm, upd_ne npw.symm] at hw1
    have hr1 := hr
    simp only [upd_upd] at hr1
    rw [upd_ne npr.symm, upd_ne ndr.symm, upd_ne npr.symm] at hr1
    have hd1 := hd
    simp only [upd_upd] at hd1
    rw [upd_ne npd.symm] at hd1
    refine ⟨_, rfl, p, _, dx, _, rfl, (by rw [upd_ne npw]; exact upd_same), T.clServer, T.nServer_wants, (by show 9 < 1000; decide), ?_⟩
    refine k _ d r w hd1 hr1 hw1 ndr ndw nrw upd_same ?_ ?_ ?_ fun b h1 h2 h3 h4 => ?_
    · simp only [upd_upd]
      rw [upd_ne npd.symm, upd_ne ndw, upd_ne npd.symm, upd_ne ndr, upd_ne npd.symm, upd_same]
    · simp only [upd_upd]
      rw [upd_ne npr.symm, upd_ne nrw, upd_ne npr.symm, upd_same]
    · rw [upd_ne npw.symm, upd_same]
    · simp only [upd_upd]
      rw [upd_ne h1, upd_ne h4, upd_ne h1, upd_ne h3, upd_ne h1, upd_ne h2, upd_ne h1]
def Leaves (t : Adr) (o : Own) (H : Hp) (A : SA) (s' : Server) (W' : List Want) (F : Hp → Prop) : Prop :=
  ∀ (o' : Own) (H' : Hp) (A' : SA), A'.p = A.p → Rep (clOf t) o' H' A' s' W' → Ext o H o' H' → F H'
theorem Leaves.use {t : Adr} {o o' : Own} {H H' : Hp} {A A' : SA} {s' : Server} {W' : List Want} {F : Hp → Prop} (k : Leaves t o H A s' W' F) (R : Rep (clOf t) o' H' A' s' W') (ep : A'.p = A.p) (ex : Ext o H o' H') : F H' := k o' H' A' ep R ex
def sp_set_anew (t : Adr) : Sp := fun vs H Q _ => ∃ (o : Own) (A : SA) (s : Server) (W : List Want) (u dy : Addr) (r : Rules) (now : Nat), vs = [.ref A.p, .ref u, nv now] ∧ Rep (clOf t) o H A s W ∧
  H u = some (.ins t.CRules dy (uf r)) ∧ o u = .data ∧ Leaves t o H A { rules := some r, now := now } W (Q .non)
theorem ok_set_anew (T : Txt K mg t) : FnOk P w K mg base CX0 1 t.fset_anew t.dset_anew ["server", "rules", "now"] (sp_set_anew t) := by
  refine T.Fset_anew.ok sc_set_anew (fun vs H Q E h => ?_) (fun cdv A outer s H vs Q E hr h => ?_)
  · obtain ⟨o, A, s, W, u, dy, r, now, rfl, _⟩ := h; rfl
  · obtain ⟨o, A, s, W, u, dy, r, now, rfl, R, hu, ou, k⟩ := h
    refine ⟨_, (pss_cons (ps_fld (pv 0) (pv 1) rfl)
      (pss_cons (ps_fld (pv 0) (pv 2) rfl)
      (pss_cons (ps_fld (pv 0) pe_dnewK rfl)
      (pss_cons (ps_fld (pv 0) (pe_lst pa_nil) rfl)
      (pss_cons (ps_fld (pv 0) pe_bl rfl)
      (pss_cons (ps_fld (pv 0) pe_int rfl)
      (pss_cons (ps_fld (pv 0) pe_int rfl)
      (pss_cons (ps_fld (pv 0) pe_int rfl)
      (pss_one (ps_fld (pv 0) pe_int rfl)))))))))), ?_⟩
    obtain ⟨dx, ge, hp, hge⟩ := R.sv
    have npu : u ≠ A.p := fun e => by rw [e, R.os] at ou; cases ou
    refine ⟨_, rfl, _, rfl, A.p, _, dx, _, rfl, hp, T.clServer, T.nServer_rules, (by show 10 < 1000; decide), ?_⟩
    refine ⟨_, rfl, _, rfl, A.p, _, dx, _, rfl, upd_same, T.clServer, T.nServer_now, (by show 10 < 1000; decide), ?_⟩
    refine fun d hd => ?_
    have npd : A.p ≠ d := ne_of_none upd_same hd
    refine ⟨_, rfl, A.p, _, dx, _, rfl, (by rw [upd_ne npd]; exact upd_same), T.clServer, T.nServer_inside, (by show 10 < 1000; decide), ?_⟩
    refine ⟨(by show 0 ≤ sizeLine; exact Nat.zero_le _), fun r' hr' => ?_⟩
    have npr : A.p ≠ r' := ne_of_none upd_same hr'
    have ndr : d ≠ r' := ne_of_none (by rw [upd_ne npd.symm]; exact upd_same) hr'
    refine ⟨_, rfl, A.p, _, dx, _, rfl, (by rw [upd_ne npr]; exact upd_same), T.clServer, T.nServer_row, (by show 10 < 1000; decide), ?_⟩
    refine ⟨_, rfl, A.p, _, dx, _, rfl, upd_same, T.clServer, T.nServer_ending, (by show 10 < 1000; decide), ?_⟩
    refine ⟨_, rfl, A.p, _, dx, _, rfl, upd_same, T.clServer, T.nServer_grace_end, (by show 10 < 1000; decide), ?_⟩
    refine ⟨_, rfl, A.p, _, dx, _, rfl, upd_same, T.clServer, T.nServer_taken, (by show 10 < 1000; decide), ?_⟩
    refine ⟨_, rfl, A.p, _, dx, _, rfl, upd_same, T.clServer, T.nServer_answered, (by show 10 < 1000; decide), ?_⟩
    refine ⟨_, rfl, A.p, _, dx, _, rfl, upd_same, T.clServer, T.nServer_told_off, (by show 10 < 1000; decide), ?_⟩
    have hr1 := hr'
    simp only [upd_upd] at hr1
    rw [upd_ne npr.symm, upd_ne ndr.symm, upd_ne npr.symm] at hr1
    have hd1 := hd
    simp only [upd_upd] at hd1
    rw [upd_ne npd.symm] at hd1
    have key : ∀ H' : Hp, H' u = some (.ins t.CRules dy (uf r)) → (∀ b v, H b = some v → b ≠ A.p → H' b = some v) → H' A.p = some (.ins t.CServer dx (sf (.ref u) now d r' false 0 0 0 0 A.w)) → H' d = some (.dK []) → H' r' = some (.lst []) → Q .non H' := fun H' h1 h2 h3 h4 h5 =>
      let z := R.anew (H' := H') (u := u) (d := d) (rw' := r') (dx := dx) (dy := dy) (now := now) (r := r) h1 ou hd1 hr1 ndr h2 h3 h4 h5
      k _ _ { A with u := u, d := d, r := r', gs := [] } rfl z.1 z.2
    refine key _ ?_ ?_ upd_same ?_ ?_
    · simp only [upd_upd]
      rw [upd_ne npu, upd_ne (ne_of_none hu hr1), upd_ne npu, upd_ne (ne_of_none hu hd1), upd_ne npu]
      exact hu
    · intro b v hb nb
      simp only [upd_upd]
      rw [upd_ne nb, upd_ne (ne_of_none hb hr1), upd_ne nb, upd_ne (ne_of_none hb hd1), upd_ne nb]
      exact hb
    · simp only [upd_upd]
      rw [upd_ne npd.symm, upd_ne ndr, upd_ne npd.symm, upd_same]
    · simp only [upd_upd]
      rw [upd_ne npr.symm, upd_same]
end
end Fd
end
section
namespace Fd
open PySem L2 Sw55
theorem sum_cast {α : Type} (f : α → Nat) : ∀ l : List α, (l.map fun a => ((f a : Nat) : Int)).sum = (((l.map f).sum : Nat) : Int)
  | [] => rfl
  | a :: r => by rw [List.map_cons, List.sum_cons, List.map_cons, List.sum_cons, sum_cast f r]; omega
theorem unlock {H : Hp} {d D : Addr} {u f l : HO} (hd : H d = some u) (hD : upd H d f D = none) : upd (upd (upd H d f) D l) d u = upd H D l := by
  have n : D ≠ d := fun e => by rw [e, upd_same] at hD; cases hD
  funext b
  by_cases e1 : b = d
  · rw [e1, upd_same, upd_ne n.symm]; exact hd.symm
  · rw [upd_ne e1]
    by_cases e2 : b = D
    · rw [e2, upd_same, upd_same]
    · rw [upd_ne e2, upd_ne e1, upd_ne e2]
theorem lock_none {H : Hp} {d D : Addr} {f : HO} (hD : upd H d f D = none) : H D = none ∧ D ≠ d := by
  have n : D ≠ d := fun e => by rw [e, upd_same] at hD; cases hD
  rw [upd_ne n] at hD
  exact ⟨hD, n⟩
theorem tYes_if {σ : St} {H : Hp} {A B : Hp → Prop} (h : A H) : tYes σ H (fun b H4 => if b = true then A H4 else B H4) := by
  unfold tYes
  exact iteT h
section
variable {P : Program} {w : World} {K : PySem.W.Frag} {mg : Str → Option Value} {base : Heap} {t : Adr}
def sp_count_working (t : Adr) : Sp := fun vs H Q _ => ∃ (o : Own) (A : SA) (s : Server) (W : List Want), vs = [.ref A.p] ∧ Rep (clOf t) o H A s W ∧ Ok0 s ∧ ∀ H', Grow H H' → Q (nv s.working) H'
theorem ok_count_working (T : Txt K mg t) : FnOk P w K mg base CX0 1 t.fcount_working t.dcount_working ["server"] (sp_count_working t) := by
  refine T.Fcount_working.ok sc_count_working (fun vs H Q E h => ?_) (fun cdv A outer s H vs Q E hr h => ?_)
  · obtain ⟨o, A, s, W, rfl, _⟩ := h; rfl
  · obtain ⟨o, A, s, W, rfl, R, ok, k⟩ := h
    refine ⟨_, (pss_one (ps_ret (pe_callB (cr_sum rfl) (by rfl) T.sum PyProof.Rows.boot_sum (pa_cons (pe_lock (pe_lc (own := [("guest", 1)]) rfl sc_count_working.nd (pi_values (pe_fld (pv 0) rfl)) (blkOk_by (by rfl)) (by intros; exact pg_name (i := 1) sc_count_working.nd rfl (Or.inl rfl)) (by intros; exact pts_nil) (by intros; exact (pe_callB (call_lenk K) (by rfl) T.len PySem.boot_len (pa_cons (pe_fldk K (pv 1) rfl) pa_nil))))) pa_nil)))), ?_⟩
    obtain ⟨dx, ge, hp, hge⟩ := R.sv
    have npd : A.p ≠ A.d := ne_role R.os R.od (by intro q; cases q)
    refine ⟨A.d, _, R.di, trivial, fun od => ?_⟩
    refine ⟨_, rfl, A.p, _, dx, _, _, rfl, (by rw [upd_ne npd]; exact hp), T.clServer, T.nServer_inside, rfl, A.d, od, dictOf A.gs, rfl, upd_same, fun D hD => ?_⟩
    obtain ⟨hD0, nD⟩ := lock_none hD
    refine lc_someD (ys := A.gs) (ky := fun g => Sum.inl (g.k : Int)) (v := fun g => V.ref g.a) (f := fun g => V.int ((g.kq.length : Nat) : Int)) (p := fun _ => true) upd_same hD (by rw [R.count]; have := ok.len; show _ < 16777216; omega) ?_ ?_
    · rintro g H2 N hg hk h1 h2
      obtain ⟨x, hx, z, _⟩ := R.ofG ok.srt hg
      obtain ⟨dy, ch, lo, e1, _⟩ := z.ob
      have n1 : g.a ≠ A.d := ne_role z.oa R.od (by intro q; cases q)
      have n2 : g.ka ≠ A.d := ne_role z.ok R.od (by intro q; cases q)
      have e1' := hk g.a _ (by rw [upd_ne n1]; exact e1)
      have e2' := hk g.ka _ (by rw [upd_ne n2]; exact z.kl)
      refine ⟨rfl, tYes_if ?_⟩
      refine ⟨_, rfl, g.a, _, _, _, _, rfl, e1', T.clGuest, T.nGuest_working, rfl, g.ka, _, rfl, .inl (SqL.of e2'), ?_⟩
      rw [List.length_map]
      exact h1 rfl
    · rw [show A.gs.filter (fun _ => true) = A.gs from List.filter_eq_self.mpr fun _ _ => rfl]
      refine ⟨by rw [upd_ne nD.symm]; exact upd_same, D, A.gs.map fun g => ((g.kq.length : Nat) : Int), rfl, ?_, ?_⟩
      · rw [unlock R.di hD]
        exact SqL.of (by rw [upd_same, List.map_map]; rfl)
      · rw [unlock R.di hD, sum_cast, R.working ok.srt]
        exact k _ (Grow.new hD0)
def sp_count_waiting (t : Adr) : Sp := fun vs H Q _ => ∃ (o : Own) (A : SA) (s : Server) (W : List Want), vs = [.ref A.p] ∧ Rep (clOf t) o H A s W ∧ Ok0 s ∧ ∀ H', Grow H H' → Q (nv s.waiting) H'
theorem ok_count_waiting (T : Txt K mg t) : FnOk P w K mg base CX0 1 t.fcount_waiting t.dcount_waiting ["server"] (sp_count_waiting t) := by
  refine T.Fcount_waiting.ok sc_count_waiting (fun vs H Q E h => ?_) (fun cdv A outer s H vs Q E hr h => ?_)
  · obtain ⟨o, A, s, W, rfl, _⟩ := h; rfl
  · obtain ⟨o, A, s, W, rfl, R, ok, k⟩ := h
    refine ⟨_, (pss_one (ps_ret (pe_callB (cr_sum rfl) (by rfl) T.sum PyProof.Rows.boot_sum (pa_cons (pe_lock (pe_lc (own := [("guest", 1)]) rfl sc_count_waiting.nd (pi_values (pe_fld (pv 0) rfl)) (blkOk_by (by rfl)) (by intros; exact pg_name (i := 1) sc_count_waiting.nd rfl (Or.inl rfl)) (by intros; exact pts_nil) (by intros; exact (pe_callB (call_lenk K) (by rfl) T.len PySem.boot_len (pa_cons (pe_fldk K (pv 1) rfl) pa_nil))))) pa_nil)))), ?_⟩
    obtain ⟨dx, ge, hp, hge⟩ := R.sv
    have npd : A.p ≠ A.d := ne_role R.os R.od (by intro q; cases q)
    refine ⟨A.d, _, R.di, trivial, fun od => ?_⟩
    refine ⟨_, rfl, A.p, _, dx, _, _, rfl, (by rw [upd_ne npd]; exact hp), T.clServer, T.nServer_inside, rfl, A.d, od, dictOf A.gs, rfl, upd_same, fun D hD => ?_⟩
    obtain ⟨hD0, nD⟩ := lock_none hD
    refine lc_someD (ys := A.gs) (ky := fun g => Sum.inl (g.k : Int)) (v := fun g => V.ref g.a) (f := fun g => V.int ((g.wq.length : Nat) : Int)) (p := fun _ => true) upd_same hD (by rw [R.count]; have := ok.len; show _ < 16777216; omega) ?_ ?_
    · rintro g H2 N hg hk h1 h2
      obtain ⟨x, hx, z, _⟩ := R.ofG ok.srt hg
      obtain ⟨dy, ch, lo, e1, _⟩ := z.ob
      have n1 : g.a ≠ A.d := ne_role z.oa R.od (by intro q; cases q)
      have n2 : g.wa ≠ A.d := ne_role z.ow R.od (by intro q; cases q)
      have e1' := hk g.a _ (by rw [upd_ne n1]; exact e1)
      have e2' := hk g.wa _ (by rw [upd_ne n2]; exact z.wl)
      refine ⟨rfl, tYes_if ?_⟩
      refine ⟨_, rfl, g.a, _, _, _, _, rfl, e1', T.clGuest, T.nGuest_waiting, rfl, g.wa, _, rfl, .inl (SqL.of e2'), ?_⟩
      rw [List.length_map]
      exact h1 rfl
    · rw [show A.gs.filter (fun _ => true) = A.gs from List.filter_eq_self.mpr fun _ _ => rfl]
      refine ⟨by rw [upd_ne nD.symm]; exact upd_same, D, A.gs.map fun g => ((g.wq.length : Nat) : Int), rfl, ?_, ?_⟩
      · rw [unlock R.di hD]
        exact SqL.of (by rw [upd_same, List.map_map]; rfl)
      · rw [unlock R.di hD, sum_cast, R.waiting ok.srt]
        exact k _ (Grow.new hD0)
def sp_count_from (t : Adr) : Sp := fun vs H Q _ => ∃ (o : Own) (A : SA) (s : Server) (W : List Want) (ad : Nat), vs = [.ref A.p, nv ad] ∧ Rep (clOf t) o H A s W ∧ Ok0 s ∧ ∀ H', Grow H H' → Q (nv (s.conns.filter fun c => c.from_ == ad).length) H'
theorem ok_count_from (T : Txt K mg t) : FnOk P w K mg base CX0 1 t.fcount_from t.dcount_from ["server", "address"] (sp_count_from t) := by
  refine T.Fcount_from.ok sc_count_from (fun vs H Q E h => ?_) (fun cdv A outer s H vs Q E hr h => ?_)
  · obtain ⟨o, A, s, W, ad, rfl, _⟩ := h; rfl
  · obtain ⟨o, A, s, W, ad, rfl, R, ok, k⟩ := h
    refine ⟨_, (pss_one (ps_ret (pe_callB call_len_seq (by rfl) T.len PySem.boot_len (pa_cons (pe_lock (pe_lc (own := [("guest", 2)]) rfl sc_count_from.nd (pi_values (pe_fld (pv 0) rfl)) (blkOk_by (by rfl)) (by intros; exact pg_name (i := 2) sc_count_from.nd rfl (Or.inl rfl)) (by intros; exact (pts_one (pt_cmpR op_eq (pe_fldk K (pv 2) rfl) (pv 1) (nomark _)))) (by intros; exact (pv 2)))) pa_nil)))), ?_⟩
    obtain ⟨dx, ge, hp, hge⟩ := R.sv
    have npd : A.p ≠ A.d := ne_role R.os R.od (by intro q; cases q)
    refine ⟨A.d, _, R.di, trivial, fun od => ?_⟩
    refine ⟨_, rfl, A.p, _, dx, _, _, rfl, (by rw [upd_ne npd]; exact hp), T.clServer, T.nServer_inside, rfl, A.d, od, dictOf A.gs, rfl, upd_same, fun D hD => ?_⟩
    obtain ⟨hD0, nD⟩ := lock_none hD
    refine lc_someD (ys := A.gs) (ky := fun g => Sum.inl (g.k : Int)) (v := fun g => V.ref g.a) (f := fun g => V.ref g.a) (p := fun g => ((ofG s g).map fun c => c.from_ == ad).getD false) upd_same hD (by rw [R.count]; have := ok.len; show _ < 16777216; omega) ?_ ?_
    · rintro g H2 N hg hk h1 h2
      obtain ⟨x, hx, z, ex⟩ := R.ofG ok.srt hg
      obtain ⟨dy, ch, lo, e1, _⟩ := z.ob
      have n1 : g.a ≠ A.d := ne_role z.oa R.od (by intro q; cases q)
      have e1' := hk g.a _ (by rw [upd_ne n1]; exact e1)
      rw [ex] at h1 h2
      refine ⟨rfl, _, rfl, g.a, _, _, _, _, rfl, e1', T.clGuest, T.nGuest_address, rfl, _, rfl, rfl, _, rfl, ?_⟩
      refine ite2 (fun q => ?_) (fun q => ?_)
      · have q1 := V.int.inj (of_decide_eq_true q)
        refine ⟨_, rfl, h1 ?_⟩
        show (x.from_ == ad) = true
        have : x.from_ = ad := by omega
        simp [this]
      · refine h2 ?_
        show (x.from_ == ad) = false
        rw [beq_eq_false_iff_ne]
        intro e
        exact q (decide_eq_true (by rw [e]))
    · refine ⟨by rw [upd_ne nD.symm]; exact upd_same, D, _, rfl, .inl (SqL.of (by rw [unlock R.di hD]; exact upd_same)), ?_⟩
      rw [unlock R.di hD, List.length_map, R.filter ok.srt]
      exact k _ (Grow.new hD0)
def sp_least_free_number (t : Adr) : Sp := fun vs H Q _ => ∃ (o : Own) (A : SA) (s : Server) (W : List Want) (k : Nat), vs = [.ref A.p] ∧ Rep (clOf t) o H A s W ∧ Ok0 s ∧ (∀ j, j < k → (pick s.conns j).isSome = true) ∧ pick s.conns k = none ∧ Q (nv k) H
theorem ok_least_free_number (T : Txt K mg t) : FnOk P w K mg base CX0 1 t.fleast_free_number t.dleast_free_number ["server"] (sp_least_free_number t) := by
  refine T.Fleast_free_number.ok sc_least_free_number (fun vs H Q E h => ?_) (fun cdv A outer s H vs Q E hr h => ?_)
  · obtain ⟨o, A, s, W, k, rfl, _⟩ := h; rfl
  · obtain ⟨o, A, s, W, k, rfl, R, ok, hlt, hk, q⟩ := h
    refine ⟨_, (pss_cons (ps_set (i := 1) sc_least_free_number.nd rfl (Or.inl rfl) pe_int)
      (pss_cons (ps_while PassesOwn.never (pt_cmp (pc_din (hu_of hr) (pv 1) (pe_fld (pv 0) rfl))) (pss_one (ps_set (i := 1) sc_least_free_number.nd rfl (Or.inl rfl) (pe_op op_add (pv 1) pe_int))))
      (pss_one (ps_ret (pv 1))))), ?_⟩
    obtain ⟨dx, ge, hp, hge⟩ := R.sv
    refine ⟨fun m σ H2 => ∃ j, j ≤ k ∧ m = k - j ∧ σ = [some (.ref A.p), some (nv j)] ∧ H2 = H, ⟨_, 0, Nat.zero_le _, rfl, rfl, rfl⟩, ?_⟩
    rintro m σ H2 ⟨j, hj, rfl, rfl, rfl⟩
    refine ⟨_, rfl, _, rfl, A.p, _, dx, _, _, rfl, hp, T.clServer, T.nServer_inside, rfl, A.d, _, rfl, DGet.k (k := Sum.inl (j : Int)) R.di, _, rfl, ?_⟩
    rcases Nat.lt_or_ge j k with lt | ge
    · obtain ⟨x, hx⟩ := Option.isSome_iff_exists.mp (hlt j lt)
      obtain ⟨hx1, hx2⟩ := pick_some hx
      obtain ⟨g, hg, z, e⟩ := R.look ok.srt hx1
      rw [hx2] at e
      rw [e]
      refine iteT ⟨fun σ' H' => ∃ m', m' < k - j ∧ ∃ j, j ≤ k ∧ m' = k - j ∧ σ' = [some (.ref A.p), some (nv j)] ∧ H' = H2, fun _ _ h => h, ?_⟩
      refine ⟨_, rfl, _, _, rfl, rfl, ?_⟩
      refine ⟨k - (j + 1), by omega, j + 1, lt, rfl, ?_, rfl⟩
      rfl
    · obtain rfl : j = k := Nat.le_antisymm hj ge
      rw [R.look_none hk]
      refine iteF ?_
      exact ⟨_, rfl, q⟩
end
end Fd
end
section
namespace Fd
open PySem L2 Sw55
theorem flat_nv (l : List Nat) : (l.map nv).all flatV = true := by
  rw [List.all_eq_true]
  intro x hx
  obtain ⟨n, _, rfl⟩ := List.mem_map.mp hx
  rfl
theorem in_nv (k : Nat) (l : List Nat) : inV (nv k) (l.map nv) = decide (k ∈ l) := by
  unfold inV
  rw [Bool.eq_iff_iff, List.any_eq_true, decide_eq_true_iff]
  constructor
  · rintro ⟨x, hx, e⟩
    obtain ⟨n, hn, rfl⟩ := List.mem_map.mp hx
    have e1 : ((n : Int) == (k : Int)) = true := e
    have e2 : (n : Int) = (k : Int) := by simpa using e1
    have : n = k := by omega
    rw [← this]; exact hn
  · intro h
    exact ⟨nv k, List.mem_map_of_mem h, by show ((k : Int) == (k : Int)) = true; simp⟩
theorem nv_ints (l : List Nat) : l.map nv = (l.map fun n : Nat => (n : Int)).map V.int := by rw [List.map_map]; rfl
theorem mem_ints {k : Nat} {l : List Nat} : (k : Int) ∈ l.map (fun n : Nat => (n : Int)) ↔ k ∈ l := by
  rw [List.mem_map]
  constructor
  · rintro ⟨n, hn, e⟩
    have : n = k := by omega
    rw [← this]; exact hn
  · exact fun h => ⟨k, h, rfl⟩
theorem erase_ints {k : Nat} : ∀ {l : List Nat}, l.Nodup → ((l.map fun n : Nat => (n : Int)).erase (k : Int)).map V.int = (l.filter fun j => j != k).map nv
  | [], _ => rfl
  | n :: r, h => by
    obtain ⟨h1, h2⟩ := List.nodup_cons.mp h
    rw [List.map_cons]
    by_cases e : n = k
    · subst e
      rw [List.erase_cons_head, List.filter_cons_of_neg (by simp), ← nv_ints]
      congr 1
      rw [List.filter_eq_self.mpr]
      intro j hj
      rw [bne_iff_ne]
      intro q
      rw [q] at hj
      exact h1 hj
    · rw [List.erase_cons_tail (by rw [beq_iff_eq]; omega), List.filter_cons_of_pos (by simpa using e), List.map_cons, List.map_cons, erase_ints h2]
      rfl
theorem Rep.dget {c : Cl} {o : Own} {H : Hp} {A : SA} {s : Server} {W : List Want} (R : Rep c o H A s W) {k : Nat} {v : V} (e : valV (dictOf A.gs) (Sum.inl (k : Int)) = some v) : DGet H A.d (nv k) (some v) := by
  rw [← e]
  exact DGet.k (k := Sum.inl (k : Int)) R.di
section
variable {P : Program} {w : World} {K : PySem.W.Frag} {mg : Str → Option Value} {base : Heap} {t : Adr}
def cancelsOf (x : Conn) : List Want := x.working.map fun y => .cancel x.number y.1
def sp_cancel_work (t : Adr) : Sp := fun vs H Q _ => ∃ (o : Own) (A : SA) (s : Server) (W : List Want) (x : Conn), vs = [.ref A.p, nv x.number] ∧ Rep (clOf t) o H A s W ∧ Ok0 s ∧ x ∈ s.conns ∧ W.length + x.working.length < sizeLine ∧
  ∀ (o' : Own) (H' : Hp) (ws' : List Addr), Rep (clOf t) o' H' { A with ws := ws' } s (W ++ cancelsOf x) → KeepW o H o' H' → Q .non H'
theorem ok_cancel_work (T : Txt K mg t) : FnOk P w K mg base CX0 2 t.fcancel_work t.dcancel_work ["server", "who"] (sp_cancel_work t) := by
  have G_want_cancel : FnOk P w K mg base CX0 1 t.fwant_cancel t.dwant_cancel ["server", "who", "number"] (sp_want_cancel t) := ok_want_cancel T
  refine T.Fcancel_work.ok sc_cancel_work (fun vs H Q E h => ?_) (fun cdv A outer s H vs Q E hr h => ?_)
  · obtain ⟨o, A, s, W, x, rfl, _⟩ := h; rfl
  · obtain ⟨o, A, s, W, x, rfl, R, ok, hx, hl, q⟩ := h
    refine ⟨_, (pss_one (ps_for PassesOwn.never rfl (pi_list (pe_fld (pe_dget (hu_of hr) (pe_fld (pv 0) rfl) (pv 1) (fun _ _ => rfl)) rfl)) (pg_name (i := 2) sc_cancel_work.nd rfl (Or.inl rfl)) (pss_one (ps_expr (pe_call G_want_cancel hr rfl T.mwant_cancel T.Fwant_cancel.kp T.bwant_cancel .nil pass0 (pa_cons (pv 0) (pa_cons (pv 1) (pa_cons (pe_fld (pv 2) rfl) pa_nil)))))))), ?_⟩
    obtain ⟨dx, ge, hp, hge⟩ := R.sv
    obtain ⟨g, hg, z, e⟩ := R.look ok.srt hx
    obtain ⟨dy, ch, lo, hga, _⟩ := z.ob
    refine ⟨_, rfl, A.p, _, dx, _, _, rfl, hp, T.clServer, T.nServer_inside, rfl, _, rfl, A.d, _, rfl, R.dget e, g.a, _, dy, _, _, rfl, hga, T.clGuest, T.nGuest_working, rfl, g.ka, rfl, ⟨_, SqL.of z.kl⟩,
      for_list (K := K) (a := g.ka) (xs := g.kq.map V.ref) (fun i σ H2 => ∃ (v : Option V) (o2 : Own) (ws2 : List Addr), σ = [some (.ref A.p), some (nv x.number), v] ∧ Rep (clOf t) o2 H2 { A with ws := ws2 } s (W ++ (x.working.take i).map fun y => .cancel x.number y.1) ∧ KeepW o H o2 H2)
        ⟨none, o, A.ws, rfl, by rw [List.take_zero, List.map_nil, List.append_nil]; exact R, KeepW.refl _ _⟩ (fun i σ H2 _ ⟨_, o2, ws2, _, _, kp⟩ => ?_) ?_ ?_⟩
    · exact SqL.of (kp _ _ z.kl (by rw [z.ok]; intro q; cases q) (by rw [z.ok]; intro q; cases q)).1
    · rintro i a σ H2 hi ⟨v, o2, ws2, rfl, R2, kp⟩
      rw [List.getElem?_map] at hi
      obtain ⟨b, hb, rfl⟩ := Option.map_eq_some_iff.mp hi
      obtain ⟨y, hy, wk⟩ := paired_get z.kr hb
      obtain ⟨dz, cost, da, hq⟩ := wk.ob
      have hq2 := (kp _ _ hq (by rw [wk.ro]; intro q; cases q) (by rw [wk.ro]; intro q; cases q)).1
      refine ⟨_, rfl, _, rfl, _, rfl, b, _, _, _, _, rfl, hq2, T.clRequest, T.nRequest_number, rfl, o2, { A with ws := ws2 }, s, _, x.number, y.1, rfl, R2, ?_, fun y' o3 H3 R3 kp3 => ?_⟩
      · rw [List.length_append, List.length_map, List.length_take]
        omega
      · refine ⟨some (V.ref b), o3, ws2 ++ [y'], rfl, ?_, kp.trans kp3⟩
        rw [take_succ_of hy, List.map_append, ← List.append_assoc]
        exact R3
    · rintro σ H2 ⟨v, o2, ws2, rfl, R2, kp⟩
      refine q o2 H2 ws2 ?_ kp
      rw [List.length_map, z.kr.length, List.take_length] at R2
      exact R2
def sp_send_away (t : Adr) : Sp := fun vs H Q _ => ∃ (o : Own) (A : SA) (s : Server) (W : List Want) (x : Conn), vs = [.ref A.p, nv x.number] ∧ Rep (clOf t) o H A s W ∧ Ok0 s ∧ x ∈ s.conns ∧
  ∀ (H' : Hp), Rep (clOf t) (away o x.number) H' { A with gs := A.gs.filter fun g => g.k != x.number } (s.without x.number) W → (∀ b u, H b = some u → o b ≠ .dict → o b ≠ .row → H' b = some u) → Q .non H'
theorem ok_send_away (T : Txt K mg t) : FnOk P w K mg base CX0 1 t.fsend_away t.dsend_away ["server", "who"] (sp_send_away t) := by
  refine T.Fsend_away.ok sc_send_away (fun vs H Q E h => ?_) (fun cdv A outer s H vs Q E hr h => ?_)
  · obtain ⟨o, A, s, W, x, rfl, _⟩ := h; rfl
  · obtain ⟨o, A, s, W, x, rfl, R, ok, hx, q⟩ := h
    refine ⟨_, (pss_cons (ps_expr (pe_dpop1 (pe_fld (pv 0) rfl) (pv 1) ⟨rfl, rfl, rfl, rfl⟩))
      (pss_one (ps_if (pt_cmpR op_in_seq (pv 1) (pe_fld (pv 0) rfl) (by rfl)) (pss_one (ps_expr (pe_bm PySem.F.plainAttrs_list PySem.F.slot_list_remove PySem.F.type_list_remove mt_remove (pe_fld (pv 0) rfl) (pa_cons (pv 1) pa_nil)))) pss_nil))), ?_⟩
    obtain ⟨dx, ge, hp, hge⟩ := R.sv
    obtain ⟨g, hg, z, e⟩ := R.look ok.srt hx
    have npd : A.p ≠ A.d := ne_role R.os R.od (by intro q; cases q)
    have nrd : A.r ≠ A.d := ne_role R.orow R.od (by intro q; cases q)
    have npr : A.p ≠ A.r := ne_role R.os R.orow (by intro q; cases q)
    refine ⟨_, rfl, A.p, _, dx, _, _, rfl, hp, T.clServer, T.nServer_inside, rfl, A.d, rfl, .inl ⟨_, .inl R.di⟩, _, rfl, _, Sum.inl (x.number : Int), _, R.di, rfl, e, ?_⟩
    have hr1 : (upd H A.d (.dK (dropK (dictOf A.gs) (Sum.inl (x.number : Int))))) A.r = some (.lst (s.row.map nv)) := by rw [upd_ne nrd]; exact R.rl
    have hp1 := hp
    rw [← upd_ne (H := H) (o := .dK (dropK (dictOf A.gs) (Sum.inl (x.number : Int)))) npd] at hp1
    refine ⟨_, rfl, _, rfl, A.p, _, dx, _, _, rfl, hp1, T.clServer, T.nServer_row, rfl, A.r, _, rfl, .inl (SqL.of hr1), rfl, flat_nv _, _, rfl, ?_⟩
    show if (inV (nv x.number) (s.row.map nv)) = true then _ else _
    rw [in_nv]
    refine ite2 (fun m => ?_) (fun m => ?_)
    · have m1 : x.number ∈ s.row := of_decide_eq_true m
      refine ⟨_, rfl, A.p, _, dx, _, _, rfl, hp1, T.clServer, T.nServer_row, rfl, .inl ⟨rfl, _, SqL.of hr1⟩, _, rfl, A.r, s.row.map (fun n : Nat => (n : Int)), (x.number : Int), rfl, rfl, (by rw [← nv_ints]; exact hr1), mem_ints.mpr m1, ?_⟩
      rw [erase_ints ok.rnd]
      refine q _ (R.gone ?_ ?_ ?_ ?_) ?_
      · intro b u hb n1 n2
        rw [upd_ne (fun y => n2 (by rw [y]; exact R.orow)), upd_ne (fun y => n1 (by rw [y]; exact R.od))]
        exact hb
      · exact fun b hb => upd_dom (upd_dom hb)
      · rw [upd_ne nrd.symm]; exact upd_same
      · exact upd_same
      · intro b u hb n1 n2
        rw [upd_ne (fun y => n2 (by rw [y]; exact R.orow)), upd_ne (fun y => n1 (by rw [y]; exact R.od))]
        exact hb
    · have m1 : x.number ∉ s.row := fun y => m (decide_eq_true y)
      have er : s.row.filter (fun j => j != x.number) = s.row := by
        rw [List.filter_eq_self]
        intro j hj
        rw [bne_iff_ne]
        intro y
        rw [y] at hj
        exact m1 hj
      refine q _ (R.gone ?_ ?_ ?_ ?_) ?_
      · intro b u hb n1 n2
        rw [upd_ne (fun y => n1 (by rw [y]; exact R.od))]
        exact hb
      · exact fun b hb => upd_dom hb
      · exact upd_same
      · rw [er]; exact hr1
      · intro b u hb n1 n2
        rw [upd_ne (fun y => n1 (by rw [y]; exact R.od))]
        exact hb
theorem leave_snoc (s : Server) (why : Nat) (l : List Conn) (c : Conn) : Sw55.leave s why (l ++ [c]) = ((Sw55.leave s why l).1.without c.number, (Sw55.leave s why l).2 ++ [.close c.number why]) := by
  unfold Sw55.leave
  rw [List.foldl_append, List.map_append]
  rfl
def sp_close_all_of (t : Adr) : Sp := fun vs H Q _ => ∃ (o : Own) (A : SA) (s : Server) (W : List Want) (l : Addr) (cs : List Conn) (why : Nat), vs = [.ref A.p, .ref l, nv why] ∧ Rep (clOf t) o H A s W ∧ Ok0 s ∧ H l = some (.lst (cs.map fun c => nv c.number)) ∧ o l = .out ∧
  (∀ c ∈ cs, c ∈ s.conns) ∧ (cs.map (·.number)).Nodup ∧ W.length + cs.length < sizeLine ∧ Leaves t o H A (Sw55.leave s why cs).1 (W ++ (Sw55.leave s why cs).2) (Q .non)
theorem ok_close_all_of (T : Txt K mg t) : FnOk P w K mg base CX0 2 t.fclose_all_of t.dclose_all_of ["server", "numbers", "why"] (sp_close_all_of t) := by
  have G_want_close : FnOk P w K mg base CX0 1 t.fwant_close t.dwant_close ["server", "who", "why"] (sp_want_close t) := ok_want_close T
  have G_send_away : FnOk P w K mg base CX0 1 t.fsend_away t.dsend_away ["server", "who"] (sp_send_away t) := ok_send_away T
  refine T.Fclose_all_of.ok sc_close_all_of (fun vs H Q E h => ?_) (fun cdv A outer s H vs Q E hr h => ?_)
  · obtain ⟨o, A, s, W, l, cs, why, rfl, _⟩ := h; rfl
  · obtain ⟨o, A, s, W, l, cs, why, rfl, R, ok, hl, ol, hin, nd, hz, q⟩ := h
    refine ⟨_, (pss_one (ps_for PassesOwn.never rfl (pi_list (pv 1)) (pg_name (i := 3) sc_close_all_of.nd rfl (Or.inl rfl)) (pss_cons (ps_expr (pe_call G_want_close hr rfl T.mwant_close T.Fwant_close.kp T.bwant_close .nil pass0 (pa_cons (pv 0) (pa_cons (pv 3) (pa_cons (pv 2) pa_nil)))))
      (pss_one (ps_expr (pe_call G_send_away hr rfl T.msend_away T.Fsend_away.kp T.bsend_away .nil pass0 (pa_cons (pv 0) (pa_cons (pv 3) pa_nil)))))))), ?_⟩
    refine ⟨_, rfl, l, rfl, ⟨_, SqL.of hl⟩, for_list (K := K) (a := l) (xs := cs.map fun c => nv c.number) (fun i σ H2 => ∃ (v : Option V) (o2 : Own) (A2 : SA), σ = [some (.ref A.p), some (.ref l), some (nv why), v] ∧ A2.p = A.p ∧
      Rep (clOf t) o2 H2 A2 (Sw55.leave s why (cs.take i)).1 (W ++ (Sw55.leave s why (cs.take i)).2) ∧ Ext o H o2 H2) ⟨none, o, A, rfl, rfl, by rw [List.take_zero, leave_nil, List.append_nil]; exact R, Ext.refl _ _⟩
      (fun i σ H2 _ ⟨_, o2, A2, _, _, _, ex⟩ => SqL.of (ex _ _ hl (.inl ol)).1) ?_ ?_⟩
    · rintro i a σ H2 hi ⟨v, o2, A2, rfl, ep, R2, ex⟩
      rw [List.getElem?_map] at hi
      obtain ⟨c, hc, rfl⟩ := Option.map_eq_some_iff.mp hi
      have ok2 : Ok0 (Sw55.leave s why (cs.take i)).1 := ok.leave why _
      have ts := take_succ_of hc
      have hlt : i < cs.length := (List.getElem?_eq_some_iff.mp hc).1
      have ll : (Sw55.leave s why (cs.take i)).2.length = i := by
        show ((cs.take i).map _).length = i
        rw [List.length_map, List.length_take]; omega
      have hcm : c ∈ (Sw55.leave s why (cs.take i)).1.conns := by
        show c ∈ ((cs.take i).foldl (fun t c => t.without c.number) s).conns
        rw [fold_without]
        refine List.mem_filter.mpr ⟨hin c (List.mem_of_getElem? hc), ?_⟩
        rw [Bool.not_eq_true', List.any_eq_false]
        intro d hd e
        have e1 : d.number = c.number := by simpa using e
        have nd2 : ((cs.take (i + 1)).map (·.number)).Nodup := nd.sublist ((List.take_sublist _ _).map _)
        rw [ts, List.map_append] at nd2
        exact (List.nodup_append.mp nd2).2.2 d.number (List.mem_map_of_mem hd) c.number (by simp) e1
      refine ⟨_, rfl, _, rfl, _, rfl, o2, A2, _, _, c.number, why, (by rw [ep]; rfl), R2, ?_, fun y o3 H3 R3 kp3 => ?_⟩
      · rw [List.length_append, ll]; omega
      · refine ⟨_, rfl, _, rfl, o3, { A2 with ws := A2.ws ++ [y] }, _, _, c, (by show _ = [V.ref A2.p, _]; rw [ep]; rfl), R3, ok2, hcm, fun H4 R4 kp4 => ?_⟩
        refine ⟨some (nv c.number), away o3 c.number, { A2 with ws := A2.ws ++ [y], gs := A2.gs.filter fun g => g.k != c.number }, rfl, ep, ?_, ?_⟩
        · rw [ts, leave_snoc, ← List.append_assoc]
          exact R4
        · have ex3 := ex.trans kp3.ext
          intro b u hb r
          obtain ⟨e1, e2⟩ := ex3 b u hb r
          have r3 : o3 b = .out ∨ o3 b = .data := by rw [e2]; exact r
          refine ⟨kp4 b u e1 ?_ ?_, ?_⟩
          · intro y; rw [y] at r3; rcases r3 with r3 | r3 <;> cases r3
          · intro y; rw [y] at r3; rcases r3 with r3 | r3 <;> cases r3
          · rw [away_ne (by rcases r3 with r3 | r3 <;> rw [r3] <;> intro y <;> cases y)]; exact e2
    · rintro σ H2 ⟨v, o2, A2, rfl, ep, R2, ex⟩
      rw [List.length_map, List.take_length] at R2
      exact q o2 H2 A2 ep R2 ex
end
end Fd
end
section
namespace Fd
open PySem L2 Sw55
theorem perm_sorted_eq : ∀ {l m : List Int}, l.Perm m → l.Pairwise (· ≤ ·) → m.Pairwise (· ≤ ·) → l = m
  | [], m, p, _, _ => (List.nil_perm.mp p).symm
  | a :: l, [], p, _, _ => by have := p.length_eq; simp at this
  | a :: l, b :: m, p, hl, hm => by
    obtain ⟨h1, h2⟩ := List.pairwise_cons.mp hl
    obtain ⟨k1, k2⟩ := List.pairwise_cons.mp hm
    have e : a = b := by
      have i1 : a ∈ b :: m := p.mem_iff.mp List.mem_cons_self
      have i2 : b ∈ a :: l := p.mem_iff.mpr List.mem_cons_self
      rcases List.mem_cons.mp i1 with q | q
      · exact q
      · rcases List.mem_cons.mp i2 with q2 | q2
        · exact q2.symm
        · have := k1 a q
          have := h1 b q2
          omega
    subst e
    rw [perm_sorted_eq (List.perm_cons a |>.mp p) h2 k2]
section
variable {c : Cl} {o : Own} {H : Hp} {A : SA} {s : Server} {W : List Want}
theorem dict_keys (gs : List GA) : (dictOf gs).map (·.1) = (gs.map fun g => (g.k : Int)).map Sum.inl := by
  unfold dictOf
  rw [List.map_map, List.map_map]
  rfl
theorem Rep.sorted (h : Rep c o H A s W) (hs : Srt s.conns) {ns : List Int} (p : ns.Perm (A.gs.map fun g => (g.k : Int))) (q : ns.Pairwise (· ≤ ·)) : ns.map V.int = s.conns.map fun c => nv c.number := by
  have p2 : (A.gs.map fun g => (g.k : Int)).Perm (s.conns.map fun c => (c.number : Int)) := by
    have := h.ky.map fun n : Nat => (n : Int)
    rw [List.map_map, List.map_map] at this
    exact this
  have s2 : (s.conns.map fun c => (c.number : Int)).Pairwise (· ≤ ·) := List.pairwise_map.mpr (hs.imp fun z => by omega)
  rw [perm_sorted_eq (p.trans p2) q s2, List.map_map]
  rfl
theorem Rep.rules (h : Rep c o H A s W) {r : Rules} (e : s.rules = some r) : ∃ dx ge dz, H A.p = some (.ins c.CS dx (sf (.ref A.u) s.now A.d A.r s.ends.isSome ge s.asked s.answered s.refused A.w)) ∧ (∀ e, s.ends = some e → ge = e) ∧ H A.u = some (.ins c.CU dz (uf r)) ∧ o A.u = .data := by
  obtain ⟨dx, ge, hp, hge⟩ := h.sv
  obtain ⟨⟨dz, hu⟩, ou⟩ := h.ru r e
  have e2 : rv s A.u = .ref A.u := by unfold rv; rw [e]
  rw [e2] at hp
  exact ⟨dx, ge, dz, hp, hge, hu, ou⟩
end
theorem srt_nodup {l : List Conn} (h : Srt l) : (l.map (·.number)).Nodup := (srt_numbers.mp h).imp fun z => Nat.ne_of_lt z
theorem srt_nodup_filter {l : List Conn} (h : Srt l) (p : Conn → Bool) : ((l.filter p).map (·.number)).Nodup := (srt_nodup h).sublist (List.filter_sublist.map _)
def graceOver (s : Server) : Bool := match s.ends with
  | none => false
  | some e => decide (e ≤ s.now)
section
variable {P : Program} {w : World} {K : PySem.W.Frag} {mg : Str → Option Value} {base : Heap} {t : Adr}
def sp_quiet_numbers (t : Adr) : Sp := fun vs H Q _ => ∃ (o : Own) (A : SA) (s : Server) (W : List Want), vs = [.ref A.p] ∧ Rep (clOf t) o H A s W ∧ Ok0 s ∧
  ∀ (H' : Hp) (D : Addr), Grow H H' → H D = none → H' D = some (.lst ((s.conns.filter Conn.quiet).map fun c => nv c.number)) → Q (.ref D) H'
theorem ok_quiet_numbers (T : Txt K mg t) : FnOk P w K mg base CX0 2 t.fquiet_numbers t.dquiet_numbers ["server"] (sp_quiet_numbers t) := by
  have G_is_quiet : FnOk P w K mg base CX0 1 t.fis_quiet t.dis_quiet ["guest"] (sp_is_quiet t) := ok_is_quiet T
  refine T.Fquiet_numbers.ok sc_quiet_numbers (fun vs H Q E h => ?_) (fun cdv A outer s H vs Q E hr h => ?_)
  · obtain ⟨o, A, s, W, rfl, _⟩ := h; rfl
  · obtain ⟨o, A, s, W, rfl, R, ok, k⟩ := h
    refine ⟨_, (pss_one (ps_ret (pe_lc (own := [("who", 1)]) rfl sc_quiet_numbers.nd (pi_list (pe_callB (cr_sortedD rfl) (by rfl) T.sorted PyProof.Rows.boot_sorted (pa_cons (pe_fld (pv 0) rfl) pa_nil))) (blkOk_by (by rfl)) (by intros; exact pg_name (i := 1) sc_quiet_numbers.nd rfl (Or.inl rfl)) (by intros; exact (pts_one (pt_val (pe_call G_is_quiet hr rfl T.mis_quiet T.Fis_quiet.kp T.bis_quiet .nil pass0 (pa_cons (pe_dget (hu_of hr) (pe_fldk K (pv 0) rfl) (pv 1) (fun _ _ => rfl)) pa_nil))))) (by intros; exact (pv 1))))), ?_⟩
    obtain ⟨dx, ge, hp, hge⟩ := R.sv
    refine ⟨_, rfl, A.p, _, dx, _, _, rfl, hp, T.clServer, T.nServer_inside, rfl, A.d, _, _, rfl, .inl R.di, dict_keys A.gs, fun ns' p pm pw hpn => ?_⟩
    rw [R.sorted ok.srt pm pw]
    refine ⟨p, rfl, ⟨_, SqL.of upd_same⟩, fun D hD => ?_⟩
    have g1 : Grow H (upd H p (.lst (s.conns.map fun c => nv c.number))) := Grow.new hpn
    refine lc_some (K := K) (ys := s.conns) (v := fun c => nv c.number) (f := fun c => nv c.number) (p := Conn.quiet) upd_same hD (by have := ok.len; show _ < 16777216; omega) ?_ ?_
    · rintro x H2 N hx hk h1 h2
      have g2 : Grow H H2 := g1.trans hk
      have R2 := R.grow g2
      obtain ⟨dx2, ge2, hp2, _⟩ := R2.sv
      obtain ⟨g, hg, z, e⟩ := R2.look ok.srt hx
      obtain ⟨dy, ch, lo, hga, _⟩ := z.ob
      refine ⟨rfl, _, rfl, A.p, _, dx2, _, _, rfl, hp2, T.clServer, T.nServer_inside, rfl, _, rfl, A.d, _, rfl, R2.dget e, g.a, dy, g.wa, g.ka, _, _, _, _, _, _, _, _, rfl, hga, z.wl, z.kl, _, rfl, ?_⟩
      have eq : ((g.wq.map V.ref).isEmpty && (g.kq.map V.ref).isEmpty) = x.quiet := by
        unfold Conn.quiet
        have l1 := z.wr.length
        have l2 := z.kr.length
        congr 1
        · rw [Bool.eq_iff_iff, List.isEmpty_iff_length_eq_zero, List.isEmpty_iff_length_eq_zero, List.length_map, l1]
        · rw [Bool.eq_iff_iff, List.isEmpty_iff_length_eq_zero, List.isEmpty_iff_length_eq_zero, List.length_map, l2]
      rw [eq]
      refine ite2 (fun q => ?_) (fun q => ?_)
      · exact ⟨_, rfl, h1 q⟩
      · exact h2 (by simpa using q)
    · refine k _ D ?_ (g1.none hD) upd_same
      exact g1.trans (Grow.new hD)
def sp_is_grace_over (t : Adr) : Sp := fun vs H Q _ => ∃ (o : Own) (A : SA) (s : Server) (W : List Want), vs = [.ref A.p] ∧ Rep (clOf t) o H A s W ∧ Q (.bl (graceOver s)) H
theorem ok_is_grace_over (T : Txt K mg t) : FnOk P w K mg base CX0 1 t.fis_grace_over t.dis_grace_over ["server"] (sp_is_grace_over t) := by
  refine T.Fis_grace_over.ok sc_is_grace_over (fun vs H Q E h => ?_) (fun cdv A outer s H vs Q E hr h => ?_)
  · obtain ⟨o, A, s, W, rfl, _⟩ := h; rfl
  · obtain ⟨o, A, s, W, rfl, R, k⟩ := h
    refine ⟨_, (pss_one (ps_ret (pe_and (pe_fld (pv 0) rfl) (pe_one (pe_cmpR op_le (pe_fld (pv 0) rfl) (pe_fld (pv 0) rfl) (nomark _)))))), ?_⟩
    obtain ⟨dx, ge, hp, hge⟩ := R.sv
    refine ⟨_, rfl, A.p, _, dx, _, _, rfl, hp, T.clServer, T.nServer_ending, rfl, _, rfl, ?_⟩
    unfold graceOver at k
    cases e : s.ends with
    | none => rw [e] at k; exact iteF k
    | some z =>
      rw [e] at k
      refine iteT ⟨_, rfl, A.p, _, dx, _, _, rfl, hp, T.clServer, T.nServer_grace_end, rfl, _, rfl, A.p, _, dx, _, _, rfl, hp, T.clServer, T.nServer_now, rfl, _, _, rfl, rfl, ?_⟩
      rw [hge z e]
      have e2 : decide ((z : Int) ≤ (s.now : Int)) = decide (z ≤ s.now) := by
        congr 1; simp only [eq_iff_iff]; omega
      show Q (.bl (decide ((z : Int) ≤ (s.now : Int)))) H
      rw [e2]
      exact k
theorem idle_zero {r : Rules} (h : r.idle = 0) (s : Server) : idleOut r s = (s, []) := by
  unfold idleOut
  have : s.conns.filter (s.idle r) = [] := by
    rw [List.filter_eq_nil_iff]
    intro c _
    unfold Server.idle
    rw [h]
    simp
  rw [this]
  rfl
theorem leave_len (s : Server) (why : Nat) (l : List Conn) : (Sw55.leave s why l).2.length = l.length := List.length_map ..
def sp_close_idle (t : Adr) : Sp := fun vs H Q _ => ∃ (o : Own) (A : SA) (s : Server) (W : List Want) (r : Rules), vs = [.ref A.p] ∧ Rep (clOf t) o H A s W ∧ Ok0 s ∧ s.rules = some r ∧ W.length + (idleOut r s).2.length < sizeLine ∧ Leaves t o H A (idleOut r s).1 (W ++ (idleOut r s).2) (Q .non)
theorem ok_close_idle (T : Txt K mg t) : FnOk P w K mg base CX0 3 t.fclose_idle t.dclose_idle ["server"] (sp_close_idle t) := by
  have G_quiet_numbers : FnOk P w K mg base CX0 2 t.fquiet_numbers t.dquiet_numbers ["server"] (sp_quiet_numbers t) := ok_quiet_numbers T
  have G_close_all_of : FnOk P w K mg base CX0 2 t.fclose_all_of t.dclose_all_of ["server", "numbers", "why"] (sp_close_all_of t) := ok_close_all_of T
  refine T.Fclose_idle.ok sc_close_idle (fun vs H Q E h => ?_) (fun cdv A outer s H vs Q E hr h => ?_)
  · obtain ⟨o, A, s, W, r, rfl, _⟩ := h; rfl
  · obtain ⟨o, A, s, W, r, rfl, R, ok, er, hl, k⟩ := h
    refine ⟨_, (pss_cons (ps_set (i := 1) sc_close_idle.nd rfl (Or.inr rfl) (pe_fld (pe_fld (pv 0) rfl) rfl))
      (pss_cons (ps_if (pt_cmpR op_eq (pv 1) pe_int (nomark _)) (pss_one ps_retN) pss_nil)
      (pss_cons (ps_set (i := 2) sc_close_idle.nd rfl (Or.inl rfl) (pe_call G_quiet_numbers hr rfl T.mquiet_numbers T.Fquiet_numbers.kp T.bquiet_numbers .nil pass0 (pa_cons (pv 0) pa_nil)))
      (pss_cons (ps_setLc (i := 3) (own := [("who", 4)]) rfl sc_close_idle.nd rfl rfl rfl (pi_list (pv 2)) (blkOk_by (by rfl)) (by intros; exact pg_name (i := 4) sc_close_idle.nd rfl (Or.inl rfl)) (by intros; exact (pts_one (pt_cmpR op_ge (pe_op op_sub (pe_fldk K (pv 0) rfl) (pe_fldk K (pe_dget (hu_of hr) (pe_fldk K (pv 0) rfl) (pv 4) (fun _ _ => rfl)) rfl)) (pv 1) (nomark _)))) (by intros; exact (pv 4)))
      (pss_one (ps_expr (pe_call G_close_all_of hr rfl T.mclose_all_of T.Fclose_all_of.kp T.bclose_all_of .nil pass0 (pa_cons (pv 0) (pa_cons (pv 3) (pa_cons (pe_gi rfl T.cCLOSE_IDLE) pa_nil)))))))))), ?_⟩
    obtain ⟨dx, ge, dz, hp, hge, hu, ou⟩ := R.rules er
    refine ⟨_, rfl, A.p, _, dx, _, _, rfl, hp, T.clServer, T.nServer_rules, rfl, A.u, _, dz, _, _, rfl, hu, T.clRules, T.nRules_idle, rfl, ?_⟩
    refine ⟨_, rfl, rfl, _, rfl, ?_⟩
    refine ite2 (fun z => ?_) (fun z => ?_)
    · have z1 : r.idle = 0 := by have := V.int.inj (of_decide_eq_true z); omega
      rw [idle_zero z1] at k
      exact k o H A rfl (by rw [List.append_nil]; exact R) (Ext.refl _ _)
    · have z1 : 0 < r.idle := by
        rcases Nat.eq_zero_or_pos r.idle with y | y
        · exact absurd (decide_eq_true (by rw [y]; rfl)) z
        · exact y
      refine ⟨_, rfl, o, A, s, W, rfl, R, ok, fun H1 D g1 hD0 hD => ?_⟩
      have R1 := R.grow g1
      refine ⟨_, rfl, D, rfl, ⟨_, SqL.of hD⟩, fun D2 hD2 => ?_⟩
      refine lc_some (K := K) (ys := s.conns.filter Conn.quiet) (v := fun c => nv c.number) (f := fun c => nv c.number) (p := fun c => decide (c.heard + r.idle ≤ s.now)) hD hD2 (by have := ok.len; have := List.length_filter_le Conn.quiet s.conns; show _ < 16777216; omega) ?_ ?_
      · rintro x H2 N hx hk h1 h2
        have hx1 : x ∈ s.conns := (List.mem_filter.mp hx).1
        have R2 := R1.grow hk
        obtain ⟨dx2, ge2, dz2, hp2, _, hu2, _⟩ := R2.rules er
        obtain ⟨g, hg, y, e⟩ := R2.look ok.srt hx1
        obtain ⟨dy, ch, lo, hga, _⟩ := y.ob
        refine ⟨rfl, _, rfl, A.p, _, dx2, _, _, rfl, hp2, T.clServer, T.nServer_now, rfl, _, rfl, A.p, _, dx2, _, _, rfl, hp2, T.clServer, T.nServer_inside, rfl, _, rfl, A.d, _, rfl, R2.dget e, g.a, _, dy, _, _, rfl, hga, T.clGuest, T.nGuest_heard_at, rfl, _, _, rfl, rfl, _, rfl, _, _, rfl, rfl, _, rfl, ?_⟩
        refine ite2 (fun q => ?_) (fun q => ?_)
        · have q1 := of_decide_eq_true q
          exact ⟨_, rfl, h1 (decide_eq_true (by omega))⟩
        · exact h2 (decide_eq_false fun q1 => q (decide_eq_true (by omega)))
      · have e1 : (s.conns.filter Conn.quiet).filter (fun c => decide (c.heard + r.idle ≤ s.now)) = s.conns.filter (s.idle r) := by
          rw [List.filter_filter]
          apply List.filter_congr
          intro c _
          unfold Server.idle
          rw [decide_eq_true z1, Bool.true_and, Bool.and_comm]
        rw [e1]
        have g2 : Grow H1 (upd H1 D2 (.lst ((s.conns.filter (s.idle r)).map fun c => nv c.number))) := Grow.new hD2
        refine ⟨_, rfl, _, rfl, o, A, s, W, D2, s.conns.filter (s.idle r), 1, rfl, R1.grow g2, ok, upd_same, R.free (g1.none hD2), fun c hc => (List.mem_filter.mp hc).1, srt_nodup_filter ok.srt _, ?_, fun o' H' A' ep R' ex => ?_⟩
        · have := leave_len s 1 (s.conns.filter (s.idle r))
          unfold idleOut at hl
          omega
        · exact k o' H' A' ep R' ((g1.trans g2).ext.trans ex)
def sp_close_quiet_if_ending (t : Adr) : Sp := fun vs H Q _ => ∃ (o : Own) (A : SA) (s : Server) (W : List Want), vs = [.ref A.p] ∧ Rep (clOf t) o H A s W ∧ Ok0 s ∧ W.length + (quietOut s).2.length < sizeLine ∧ Leaves t o H A (quietOut s).1 (W ++ (quietOut s).2) (Q .non)
theorem ok_close_quiet_if_ending (T : Txt K mg t) : FnOk P w K mg base CX0 3 t.fclose_quiet_if_ending t.dclose_quiet_if_ending ["server"] (sp_close_quiet_if_ending t) := by
  have G_quiet_numbers : FnOk P w K mg base CX0 2 t.fquiet_numbers t.dquiet_numbers ["server"] (sp_quiet_numbers t) := ok_quiet_numbers T
  have G_close_all_of : FnOk P w K mg base CX0 2 t.fclose_all_of t.dclose_all_of ["server", "numbers", "why"] (sp_close_all_of t) := ok_close_all_of T
  refine T.Fclose_quiet_if_ending.ok sc_close_quiet_if_ending (fun vs H Q E h => ?_) (fun cdv A outer s H vs Q E hr h => ?_)
  · obtain ⟨o, A, s, W, rfl, _⟩ := h; rfl
  · obtain ⟨o, A, s, W, rfl, R, ok, hl, k⟩ := h
    refine ⟨_, (pss_one (ps_if (pt_val (pe_fld (pv 0) rfl)) (pss_one (ps_expr (pe_call G_close_all_of hr rfl T.mclose_all_of T.Fclose_all_of.kp T.bclose_all_of .nil pass0 (pa_cons (pv 0) (pa_cons (pe_call G_quiet_numbers hr rfl T.mquiet_numbers T.Fquiet_numbers.kp T.bquiet_numbers .nil pass0 (pa_cons (pv 0) pa_nil)) (pa_cons (pe_gi rfl T.cCLOSE_ENDING) pa_nil)))))) pss_nil)), ?_⟩
    obtain ⟨dx, ge, hp, hge⟩ := R.sv
    refine ⟨_, rfl, A.p, _, dx, _, _, rfl, hp, T.clServer, T.nServer_ending, rfl, _, rfl, ?_⟩
    unfold quietOut at k hl
    refine ite2 (fun z => ?_) (fun z => ?_)
    · rw [if_pos z] at k hl
      refine ⟨_, rfl, _, rfl, o, A, s, W, rfl, R, ok, fun H1 D g1 hD0 hD => ?_⟩
      refine ⟨o, A, s, W, D, s.conns.filter Conn.quiet, 2, rfl, R.grow g1, ok, hD, R.free hD0, fun c hc => (List.mem_filter.mp hc).1, srt_nodup_filter ok.srt _, ?_, fun o' H' A' ep R' ex => ?_⟩
      · have := leave_len s 2 (s.conns.filter Conn.quiet)
        omega
      · exact k o' H' A' ep R' (g1.ext.trans ex)
    · rw [if_neg z] at k
      exact k o H A rfl (by rw [List.append_nil]; exact R) (Ext.refl _ _)
theorem grace_not {s : Server} (h : graceOver s = false) : graceOut s = (s, []) := by
  unfold graceOver at h
  unfold graceOut
  cases e : s.ends with
  | none => rfl
  | some z =>
    rw [e] at h
    simp only
    rw [if_neg (of_decide_eq_false h)]
theorem grace_yes {s : Server} (h : graceOver s = true) : graceOut s = ((Sw55.leave s 3 s.conns).1, cancels s.conns ++ (Sw55.leave s 3 s.conns).2) := by
  unfold graceOver at h
  unfold graceOut
  cases e : s.ends with
  | none => rw [e] at h; cases h
  | some z =>
    rw [e] at h
    simp only
    rw [if_pos (of_decide_eq_true h)]
def sp_close_all_if_grace_over (t : Adr) : Sp := fun vs H Q _ => ∃ (o : Own) (A : SA) (s : Server) (W : List Want), vs = [.ref A.p] ∧ Rep (clOf t) o H A s W ∧ Ok0 s ∧ W.length + (graceOut s).2.length < sizeLine ∧ Leaves t o H A (graceOut s).1 (W ++ (graceOut s).2) (Q .non)
theorem ok_close_all_if_grace_over (T : Txt K mg t) : FnOk P w K mg base CX0 3 t.fclose_all_if_grace_over t.dclose_all_if_grace_over ["server"] (sp_close_all_if_grace_over t) := by
  have G_is_grace_over : FnOk P w K mg base CX0 2 t.fis_grace_over t.dis_grace_over ["server"] (sp_is_grace_over t) := (ok_is_grace_over T).mono (by decide)
  have G_cancel_work : FnOk P w K mg base CX0 2 t.fcancel_work t.dcancel_work ["server", "who"] (sp_cancel_work t) := ok_cancel_work T
  have G_close_all_of : FnOk P w K mg base CX0 2 t.fclose_all_of t.dclose_all_of ["server", "numbers", "why"] (sp_close_all_of t) := ok_close_all_of T
  refine T.Fclose_all_if_grace_over.ok sc_close_all_if_grace_over (fun vs H Q E h => ?_) (fun cdv A outer s H vs Q E hr h => ?_)
  · obtain ⟨o, A, s, W, rfl, _⟩ := h; rfl
  · obtain ⟨o, A, s, W, rfl, R, ok, hl, k⟩ := h
    refine ⟨_, (pss_cons (ps_if (pt_not (pt_val (pe_call G_is_grace_over hr rfl T.mis_grace_over T.Fis_grace_over.kp T.bis_grace_over .nil pass0 (pa_cons (pv 0) pa_nil)))) (pss_one ps_retN) pss_nil)
      (pss_cons (ps_set (i := 1) sc_close_all_if_grace_over.nd rfl (Or.inl rfl) (pe_callB (cr_sortedD rfl) (by rfl) T.sorted PyProof.Rows.boot_sorted (pa_cons (pe_fld (pv 0) rfl) pa_nil)))
      (pss_cons (ps_for PassesOwn.never rfl (pi_list (pv 1)) (pg_name (i := 2) sc_close_all_if_grace_over.nd rfl (Or.inl rfl)) (pss_one (ps_expr (pe_call G_cancel_work hr rfl T.mcancel_work T.Fcancel_work.kp T.bcancel_work .nil pass0 (pa_cons (pv 0) (pa_cons (pv 2) pa_nil))))))
      (pss_one (ps_expr (pe_call G_close_all_of hr rfl T.mclose_all_of T.Fclose_all_of.kp T.bclose_all_of .nil pass0 (pa_cons (pv 0) (pa_cons (pv 1) (pa_cons (pe_gi rfl T.cCLOSE_GRACE_OVER) pa_nil))))))))), ?_⟩
    refine ⟨_, rfl, o, A, s, W, rfl, R, _, rfl, ?_⟩
    cases z : graceOver s with
    | false =>
      rw [grace_not z] at k
      refine iteT ?_
      exact k o H A rfl (by rw [List.append_nil]; exact R) (Ext.refl _ _)
    | true =>
      rw [grace_yes z] at k hl
      have hl2 : W.length + (cancels s.conns ++ (Sw55.leave s 3 s.conns).2).length < sizeLine := hl
      refine iteF ?_
      obtain ⟨dx, ge, hp, hge⟩ := R.sv
      refine ⟨_, rfl, A.p, _, dx, _, _, rfl, hp, T.clServer, T.nServer_inside, rfl, A.d, _, _, rfl, .inl R.di, dict_keys A.gs, fun ns' p pm pw hpn => ?_⟩
      rw [R.sorted ok.srt pm pw]
      have g1 : Grow H (upd H p (.lst (s.conns.map fun c => nv c.number))) := Grow.new hpn
      have R1 := R.grow g1
      have op : o p = .out := R.free hpn
      have hp1 : (upd H p (.lst (s.conns.map fun c => nv c.number))) p = some (.lst (s.conns.map fun c => nv c.number)) := upd_same
      generalize (upd H p (.lst (s.conns.map fun c => nv c.number))) = H1 at g1 R1 hp1
      have lenc : (cancels s.conns).length = (s.conns.map fun c => c.working.length).sum := by
        unfold cancels
        rw [List.length_flatMap]
        congr 1
        apply List.map_congr_left
        intro c _
        rw [List.length_map]
      have lent : (cancels s.conns ++ (Sw55.leave s 3 s.conns).2).length = (cancels s.conns).length + s.conns.length := by rw [List.length_append, leave_len]
      refine ⟨_, rfl, p, rfl, ⟨_, SqL.of hp1⟩, for_list (K := K) (a := p) (xs := s.conns.map fun c => nv c.number) (fun i σ H2 => ∃ (v : Option V) (o2 : Own) (ws2 : List Addr), σ = [some (.ref A.p), some (.ref p), v] ∧
        Rep (clOf t) o2 H2 { A with ws := ws2 } s (W ++ cancels (s.conns.take i)) ∧ KeepW o H1 o2 H2) ⟨none, o, A.ws, rfl, by rw [List.take_zero]; show Rep _ _ _ _ _ (W ++ []); rw [List.append_nil]; exact R1, KeepW.refl _ _⟩
        (fun i σ H2 _ ⟨_, o2, ws2, _, _, kp⟩ => SqL.of (kp _ _ hp1 (by rw [op]; intro q; cases q) (by rw [op]; intro q; cases q)).1) ?_ ?_⟩
      · rintro i a σ H2 hi ⟨v, o2, ws2, rfl, R2, kp⟩
        rw [List.getElem?_map] at hi
        obtain ⟨x, hx, rfl⟩ := Option.map_eq_some_iff.mp hi
        have hxm := List.mem_of_getElem? hx
        have ts := take_succ_of hx
        have e2 : cancels (s.conns.take (i + 1)) = cancels (s.conns.take i) ++ cancelsOf x := by
          unfold cancels
          rw [ts, List.flatMap_append]
          congr 1
          simp only [List.flatMap_cons, List.flatMap_nil, List.append_nil]
          rfl
        have lb : (cancels (s.conns.take (i + 1))).length ≤ (cancels s.conns).length := by
          have e3 : cancels s.conns = cancels (s.conns.take (i + 1)) ++ cancels (s.conns.drop (i + 1)) := by
            unfold cancels
            rw [← List.flatMap_append, List.take_append_drop]
          rw [e3, List.length_append]
          omega
        refine ⟨_, rfl, _, rfl, o2, { A with ws := ws2 }, s, _, x, rfl, R2, ok, hxm, ?_, fun o3 H3 ws3 R3 kp3 => ?_⟩
        · rw [List.length_append]
          rw [e2, List.length_append] at lb
          have : (cancelsOf x).length = x.working.length := List.length_map ..
          omega
        · refine ⟨some (nv x.number), o3, ws3, rfl, ?_, kp.trans kp3⟩
          rw [e2, ← List.append_assoc]
          exact R3
      · rintro σ H2 ⟨v, o2, ws2, rfl, R2, kp⟩
        rw [List.length_map, List.take_length] at R2
        obtain ⟨hp2, op2⟩ := kp _ _ hp1 (by rw [op]; intro q; cases q) (by rw [op]; intro q; cases q)
        refine ⟨_, rfl, _, rfl, o2, { A with ws := ws2 }, s, _, p, s.conns, 3, rfl, R2, ok, hp2, op2.trans op, fun c hc => hc, srt_nodup ok.srt, ?_, fun o' H' A' ep R' ex => ?_⟩
        · rw [List.length_append]
          omega
        · refine k o' H' A' ep ?_ ((g1.ext.trans kp.ext).trans ex)
          rw [← List.append_assoc]
          exact R'
end
end Fd
end
section
namespace Fd
open PySem L2 Sw55
section
variable {c : Cl} {o o' : Own} {H H' : Hp} {A : SA} {s s' : Server} {W : List Want}
theorem Rep.srow (h : Rep c o H A s W) {r' : Addr} (keep : ∀ b u, H b = some u → o b ≠ .out → o b ≠ .srv → o b ≠ .row → H' b = some u ∧ o' b = o b) (dom' : ∀ b, o' b ≠ .out → H' b ≠ none)
    (hc : s'.conns = s.conns) (hr : s'.rules = s.rules) (hn : s'.now = s.now)
    (sv : ∃ dx ge, H' A.p = some (.ins c.CS dx (sf (rv s' A.u) s'.now A.d r' s'.ends.isSome ge s'.asked s'.answered s'.refused A.w)) ∧ ∀ e, s'.ends = some e → ge = e) (os : o' A.p = .srv)
    (rl : H' r' = some (.lst (s'.row.map nv))) (orow : o' r' = .row) : Rep c o' H' { A with r := r' } s' W := by
  have k : ∀ {b : Addr} {u : HO} {r : Role}, H b = some u → o b = r → r ≠ .out → r ≠ .srv → r ≠ .row → H' b = some u ∧ o' b = o b := fun hb e n1 n2 n3 => keep _ _ hb (by rw [e]; exact n1) (by rw [e]; exact n2) (by rw [e]; exact n3)
  obtain ⟨b1, b2⟩ := k h.di h.od (by intro q; cases q) (by intro q; cases q) (by intro q; cases q)
  obtain ⟨c1, c2⟩ := k h.wl h.ow (by intro q; cases q) (by intro q; cases q) (by intro q; cases q)
  refine ⟨dom', sv, os, fun r e => ?_, b1, b2.trans h.od, rl, orow, c1, c2.trans h.ow, paired_imp h.ws fun a w _ _ z => ?_, by rw [hc]; exact h.ky, fun g hg => ?_⟩
  · obtain ⟨⟨dy, e1⟩, e2⟩ := h.ru r (by rw [← hr]; exact e)
    obtain ⟨e3, e4⟩ := k e1 e2 (by intro q; cases q) (by intro q; cases q) (by intro q; cases q)
    exact ⟨⟨dy, e3⟩, e4.trans e2⟩
  · obtain ⟨e3, e4⟩ := k z.1 z.2 (by intro q; cases q) (by intro q; cases q) (by intro q; cases q)
    exact ⟨e3, e4.trans z.2⟩
  · obtain ⟨x, hx, z⟩ := h.gu g hg
    refine ⟨x, by rw [hc]; exact hx, ?_⟩
    rw [hr, hn]
    refine z.keep (Nat.le_refl _) fun b u hb q => keep b u hb ?_ ?_ ?_
    all_goals (rcases q with q | q <;> intro e <;> rw [e] at q <;> cases q)
theorem Rep.setrow (h : Rep c o H A s W) (row : List Nat) : Rep c o (upd H A.r (.lst (row.map nv))) A { s with row := row } W := by
  have npr : A.p ≠ A.r := ne_role h.os h.orow (by intro q; cases q)
  obtain ⟨dx, ge, hp, hge⟩ := h.sv
  exact h.srow (s' := { s with row := row }) (r' := A.r) (fun b u hb _ _ n => ⟨by rw [upd_ne (fun e => n (by rw [e]; exact h.orow))]; exact hb, rfl⟩) (fun b n => upd_dom (h.dom b n)) rfl rfl rfl ⟨dx, ge, by rw [upd_ne npr]; exact hp, hge⟩ h.os upd_same h.orow
theorem Ext.setrow (h : Rep c o H A s W) {u : HO} : Ext o H o (upd H A.r u) := fun b v hb q => ⟨by rw [upd_ne (fun e => by rw [e, h.orow] at q; rcases q with q | q <;> cases q)]; exact hb, rfl⟩
theorem Rep.newrow (h : Rep c o H A s W) {l dx : Addr} {ge : Nat} {row : List Nat} (ol : o l = .out) (hl : H l = some (.lst (row.map nv))) (hge : ∀ e, s.ends = some e → ge = e) :
    Rep c (setR o l .row) (upd H A.p (.ins c.CS dx (sf (rv s A.u) s.now A.d l s.ends.isSome ge s.asked s.answered s.refused A.w))) { A with r := l } { s with row := row } W := by
  have npl : A.p ≠ l := ne_role h.os ol (by intro q; cases q)
  refine h.srow (s' := { s with row := row }) (r' := l) (fun b u hb n1 n2 n3 => ⟨by rw [upd_ne (fun e => n2 (by rw [e]; exact h.os))]; exact hb, setR_ne fun e => n1 (by rw [e]; exact ol)⟩) (fun b n => ?_) rfl rfl rfl ⟨dx, ge, upd_same, hge⟩ (by rw [setR_ne npl]; exact h.os) (by rw [upd_ne npl.symm]; exact hl) setR_same
  by_cases e : b = l
  · refine upd_dom ?_
    rw [e, hl]; intro q; cases q
  · rw [setR_ne e] at n
    exact upd_dom (h.dom b n)
theorem Rep.scal (h : Rep c o H A s W) {dx : Addr} {ge : Nat} (hc : s'.conns = s.conns) (hr : s'.rules = s.rules) (hrow : s'.row = s.row) (hn : s.now ≤ s'.now) (hge : ∀ e, s'.ends = some e → ge = e) :
    Rep c o (upd H A.p (.ins c.CS dx (sf (rv s A.u) s'.now A.d A.r s'.ends.isSome ge s'.asked s'.answered s'.refused A.w))) A s' W := by
  have npw : A.p ≠ A.w := ne_role h.os h.ow (by intro q; cases q)
  have e : rv s' A.u = rv s A.u := by unfold rv; rw [hr]
  have kp : ∀ {b : Addr} {u : HO}, H b = some u → o b ≠ .srv → (upd H A.p (.ins c.CS dx (sf (rv s A.u) s'.now A.d A.r s'.ends.isSome ge s'.asked s'.answered s'.refused A.w))) b = some u := fun hb n => by rw [upd_ne (fun e => n (by rw [e]; exact h.os))]; exact hb
  refine h.srvw (ws' := A.ws) (W' := W) (fun b u hb _ n2 _ => ⟨kp hb n2, rfl⟩) (fun b n => upd_dom (h.dom b n)) hc hr hrow hn ⟨dx, ge, by rw [e]; exact upd_same, hge⟩ h.os (by rw [upd_ne npw.symm]; exact h.wl) h.ow (paired_imp h.ws fun a w _ _ z => ⟨kp z.1 (by rw [z.2]; intro q; cases q), z.2⟩)
theorem Ext.scal (h : Rep c o H A s W) {u : HO} : Ext o H o (upd H A.p u) := fun b v hb q => ⟨by rw [upd_ne (fun e => by rw [e, h.os] at q; rcases q with q | q <;> cases q)]; exact hb, rfl⟩
theorem WaitAt.keepR {k : Nat} {a : Addr} {q : Req} (h : WaitAt c o H k a q) (f : ∀ b u, H b = some u → o b = .req k q.id ∨ o b = .data → H' b = some u ∧ o' b = o b) : WaitAt c o' H' k a q := by
  obtain ⟨⟨dx, da, h1, h2, h3⟩, h4, h5⟩ := h
  obtain ⟨a1, a2⟩ := f a _ h1 (.inl h4)
  obtain ⟨b1, b2⟩ := f da _ h2 (.inr h3)
  exact ⟨⟨dx, da, a1, b1, b2.trans h3⟩, a2.trans h4, h5⟩
theorem WorkAt.keepR {k : Nat} {a : Addr} {q : Nat × Nat} (h : WorkAt c o H k a q) (f : ∀ b u, H b = some u → o b = .req k q.1 → H' b = some u ∧ o' b = o b) : WorkAt c o' H' k a q := by
  obtain ⟨⟨dx, cost, da, h1⟩, h4⟩ := h
  obtain ⟨a1, a2⟩ := f a _ h1 h4
  exact ⟨⟨dx, cost, da, a1⟩, a2.trans h4⟩
theorem GuestAt.put {ro : Option Rules} {now : Nat} {g : GA} {x x' : Conn} (z : GuestAt c o H ro now g x) (en : x'.number = x.number) (ew : x'.waiting = x.waiting) (ek : x'.working = x.working) {dx : Addr} {ch lo : Nat} (hl : Lvl ro now x' ch lo) :
    GuestAt c o (upd H g.a (.ins c.CG dx (gf x'.from_ x'.weight x'.credit g.wa g.ka x'.heard ch lo))) ro now g x' := by
  have nw : g.wa ≠ g.a := ne_role z.ow z.oa (by intro q; cases q)
  have nk : g.ka ≠ g.a := ne_role z.ok z.oa (by intro q; cases q)
  refine ⟨z.nm.trans en.symm, ⟨dx, ch, lo, upd_same, hl⟩, by rw [en]; exact z.oa, by rw [upd_ne nw]; exact z.wl, by rw [en]; exact z.ow, by rw [upd_ne nk]; exact z.kl, by rw [en]; exact z.ok, ?_, ?_⟩
  · rw [en, ew]
    refine paired_imp z.wr fun a q _ _ y => y.keepR fun b u hb r => ⟨?_, rfl⟩
    rw [upd_ne (fun e => by rw [e, z.oa] at r; rcases r with r | r <;> cases r)]
    exact hb
  · rw [en, ek]
    refine paired_imp z.kr fun a q _ _ y => y.keepR fun b u hb r => ⟨?_, rfl⟩
    rw [upd_ne (fun e => by rw [e, z.oa] at r; cases r)]
    exact hb
theorem Rep.gput (h : Rep c o H A s W) (hs : Srt s.conns) {g : GA} {x x' : Conn} (hg : g ∈ A.gs) (hx : x ∈ s.conns) (z : GuestAt c o H s.rules s.now g x) (en : x'.number = x.number) (ew : x'.waiting = x.waiting) (ek : x'.working = x.working) {dx : Addr} {ch lo : Nat} (hl : Lvl s.rules s.now x' ch lo) :
    Rep c o (upd H g.a (.ins c.CG dx (gf x'.from_ x'.weight x'.credit g.wa g.ka x'.heard ch lo))) { A with gs := A.gs.map fun y => if y.k = g.k then g else y } (s.with_ x') W :=
  h.guest hs hg hx z en rfl (fun b u hb _ n => ⟨by rw [upd_ne (fun e => n (by rw [e, z.oa]; rfl))]; exact hb, rfl⟩) (fun b n => upd_dom (h.dom b n)) (z.put en ew ek hl)
theorem Ext.gput {ro : Option Rules} {now : Nat} {g : GA} {x : Conn} (z : GuestAt c o H ro now g x) {u : HO} : Ext o H o (upd H g.a u) := fun b v hb q => ⟨by rw [upd_ne (fun e => by rw [e, z.oa] at q; rcases q with q | q <;> cases q)]; exact hb, rfl⟩
end
theorem map_same {A : SA} {g : GA} (nd : (A.gs.map (·.k)).Nodup) (hg : g ∈ A.gs) : (A.gs.map fun y => if y.k = g.k then g else y) = A.gs := by
  have key : ∀ {l : List GA}, (l.map (·.k)).Nodup → g ∈ l → (l.map fun y => if y.k = g.k then g else y) = l := by
    intro l
    induction l with
    | nil => intro _ _; rfl
    | cons v r ih =>
      intro n q
      obtain ⟨n1, n2⟩ := List.nodup_cons.mp n
      rw [List.map_cons]
      rcases List.mem_cons.mp q with q1 | q1
      · subst q1
        rw [if_pos rfl]
        congr 1
        conv => rhs; rw [← List.map_id r]
        apply List.map_congr_left
        intro y hy
        rw [if_neg (fun e => n1 (by show g.k ∈ _; rw [← e]; exact List.mem_map_of_mem hy))]
        rfl
      · rw [if_neg (fun e => n1 (by show v.k ∈ _; rw [e]; exact List.mem_map_of_mem q1)), ih n2 q1]
  exact key nd hg
theorem repl_repl {d e : Conn} (h : d.number = e.number) (l : List Conn) : repl d (repl e l) = repl d l := by
  unfold repl
  rw [List.map_map]
  apply List.map_congr_left
  intro x _
  show (if (if x.number = e.number then e else x).number = d.number then d else (if x.number = e.number then e else x)) = if x.number = d.number then d else x
  by_cases q : x.number = e.number
  · rw [if_pos q, if_pos h.symm, if_pos (q.trans h.symm)]
  · rw [if_neg q]
end Fd
end
section
namespace Fd
open PySem L2 Sw55
def NoIdle (r : Rules) (s : Server) : Prop := ∀ c ∈ s.conns, s.idle r c = false
theorem leave_sub (s : Server) (why : Nat) (l : List Conn) {c : Conn} (h : c ∈ (Sw55.leave s why l).1.conns) : c ∈ s.conns := by
  have h2 : c ∈ (l.foldl (fun t c => t.without c.number) s).conns := h
  rw [fold_without] at h2
  exact (List.mem_filter.mp h2).1
theorem NoIdle.leave {r : Rules} {s : Server} (h : NoIdle r s) (why : Nat) (l : List Conn) : NoIdle r (Sw55.leave s why l).1 := fun c hc => by
  have := h c (leave_sub s why l hc)
  unfold Server.idle at this ⊢
  rw [(leave_rest s why l).1]
  exact this
theorem NoIdle.quiet {r : Rules} {s : Server} (h : NoIdle r s) : NoIdle r (quietOut s).1 := by
  unfold quietOut
  split
  · exact h.leave _ _
  · exact h
theorem NoIdle.grace {r : Rules} {s : Server} (h : NoIdle r s) : NoIdle r (graceOut s).1 := by
  unfold graceOut
  split
  · exact h
  · split
    · exact h.leave 3 s.conns
    · exact h
theorem NoIdle.tidy {r : Rules} {s : Server} (h : NoIdle r s) : NoIdle r (tidy s) := by
  intro c hc
  obtain ⟨d, hd, e⟩ := List.mem_map.mp hc
  have := h d hd
  unfold Server.idle at this ⊢
  rw [← e]
  show (Conn.quiet _ && (decide (0 < r.idle) && decide (_ + r.idle ≤ s.now))) = false
  split
  · exact this
  · exact this
theorem NoIdle.turn {r : Rules} {s s1 : Server} {w : List Want} (h : NoIdle r s) (t : Turn s s1 w) : NoIdle r s1 := by
  cases t with
  | @more r' k row c q l hr hw hrow hc hk hq hlt =>
    intro x hx
    rcases mem_repl.mp hx with ⟨hx, _⟩ | ⟨rfl, _⟩
    · exact h x hx
    · exact h c hc
  | @starts r' k row c q l hr hw hrow hc hk hq hge =>
    intro x hx
    rcases mem_repl.mp hx with ⟨hx, _⟩ | ⟨rfl, _⟩
    · exact h x hx
    · unfold Server.idle Conn.quiet
      simp
theorem NoIdle.after {r : Rules} {s : Server} (h : NoIdle r s) (ok : Ok0 s) : NoIdle r (after s).1 :=
  (allTurns_ind (P := NoIdle r) (fun a b w _ ha t => ha.turn t) ok.tidy h.tidy).2.1
theorem passes_noidle {s : Server} {r : Rules} (ok : Ok s) (er : s.rules = some r) (n : Nat) : NoIdle r (passes s n).1 := by
  rw [passes_eq er]
  rw [then_fst, then_fst, then_fst, then_fst]
  have ok1 : Ok { s with now := max s.now n } := ok.later (Nat.le_max_left _ _)
  have i1 := lateAll_ok (r := r) ok1
  obtain ⟨i2, i3⟩ := idle_ok (r := r) i1
  obtain ⟨q1, q2, q3⟩ := quiet_ok i2
  obtain ⟨h1, h2, h3⟩ := grace_ok q1 q3
  have n0 : NoIdle r (idleOut r (lateAll r { s with now := max s.now n }).1).1 := by
    intro c hc
    unfold idleOut at hc
    rw [leave_filter i1.srt] at hc
    have := (List.mem_filter.mp hc).2
    unfold Server.idle at this ⊢
    rw [i3.now]
    rw [Bool.not_eq_true'] at this
    exact this
  exact n0.quiet.grace.after h1
theorem idle_none {r : Rules} {s : Server} (h : NoIdle r s) : idleOut r s = (s, []) := by
  unfold idleOut
  rw [List.filter_eq_nil_iff.mpr fun c hc => by rw [h c hc]; exact Bool.false_ne_true]
  rfl
theorem insert_perm (c : Conn) : ∀ l : List Conn, (Sw55.insert c l).Perm (c :: l)
  | [] => List.Perm.refl _
  | d :: l => by
    unfold Sw55.insert
    split
    · exact List.Perm.refl _
    · exact ((insert_perm c l).cons d).trans (List.Perm.swap c d l)
section
variable {c : Cl} {o o' : Own} {H H' : Hp} {A : SA} {s : Server} {W : List Want}
theorem Rep.comes (h : Rep c o H A s W) {g : GA} {x : Conn} (hk : pick s.conns x.number = none)
    (f : ∀ b u, H b = some u → o b ≠ .out → b ≠ A.d → H' b = some u ∧ o' b = o b) (dom' : ∀ b, o' b ≠ .out → H' b ≠ none) (hd : H' A.d = some (.dK (putK (dictOf A.gs) (Sum.inl (x.number : Int)) (V.ref g.a)))) (od : o' A.d = .dict)
    (new : GuestAt c o' H' s.rules s.now g x) : Rep c o' H' { A with gs := A.gs ++ [g] } { s with conns := Sw55.insert x s.conns } W := by
  have st : ∀ {b : Addr} {u : HO} {r : Role}, H b = some u → o b = r → r ≠ .out → r ≠ .dict → H' b = some u ∧ o' b = r := fun hb e n1 n2 => by
    obtain ⟨a1, a2⟩ := f _ _ hb (by rw [e]; exact n1) (fun y => n2 (by rw [← e, y]; exact h.od))
    exact ⟨a1, a2.trans e⟩
  obtain ⟨dx, ge, h1, h2⟩ := h.sv
  obtain ⟨a1, a2⟩ := st h1 h.os (by intro q; cases q) (by intro q; cases q)
  obtain ⟨b1, b2⟩ := st h.wl h.ow (by intro q; cases q) (by intro q; cases q)
  obtain ⟨c1, c2⟩ := st h.rl h.orow (by intro q; cases q) (by intro q; cases q)
  refine ⟨dom', ⟨dx, ge, a1, h2⟩, a2, fun r e => ?_, ?_, od, c1, c2, b1, b2, paired_imp h.ws fun a w _ _ z => ?_, ?_, fun y hy => ?_⟩
  · obtain ⟨⟨dy, e1⟩, e2⟩ := h.ru r e
    obtain ⟨e3, e4⟩ := st e1 e2 (by intro q; cases q) (by intro q; cases q)
    exact ⟨⟨dy, e3⟩, e4⟩
  · show H' A.d = some (.dK (dictOf (A.gs ++ [g])))
    rw [hd]
    congr 2
    unfold putK
    rw [valV_any, h.look_none hk, if_neg (by simp)]
    unfold dictOf
    rw [List.map_append, List.map_cons, List.map_nil, new.nm]
  · exact st z.1 z.2 (by intro q; cases q) (by intro q; cases q)
  · show ((A.gs ++ [g]).map (·.k)).Perm ((Sw55.insert x s.conns).map (·.number))
    have p1 : ((A.gs ++ [g]).map (·.k)).Perm (g.k :: A.gs.map (·.k)) := by
      rw [List.map_append]
      exact List.perm_append_singleton _ _
    have p2 : ((Sw55.insert x s.conns).map (·.number)).Perm (x.number :: s.conns.map (·.number)) := (insert_perm x s.conns).map _
    refine p1.trans (List.Perm.trans ?_ p2.symm)
    rw [new.nm]
    exact h.ky.cons _
  · rcases List.mem_append.mp hy with hy | hy
    · obtain ⟨v, hv, z⟩ := h.gu y hy
      refine ⟨v, (insert_perm x s.conns).mem_iff.mpr (List.mem_cons_of_mem _ hv), z.keep (Nat.le_refl _) fun b u hb q => f b u hb ?_ ?_⟩
      · intro e; rw [e] at q; rcases q with q | q <;> cases q
      · intro e; rw [e, h.od] at q; rcases q with q | q <;> cases q
    · have e : y = g := by simpa using hy
      subst e
      exact ⟨x, (insert_perm x s.conns).mem_iff.mpr List.mem_cons_self, new⟩
end
theorem free_number {s : Server} (h : Ok0 s) (hl : s.conns.length < 64) : ∃ k, (List.range CONNS).find? (fun k => (s.conn k).isNone) = some k ∧ (∀ j, j < k → (pick s.conns j).isSome = true) ∧ pick s.conns k = none := by
  cases e : (List.range CONNS).find? (fun k => (s.conn k).isNone) with
  | none =>
    exfalso
    rw [List.find?_eq_none] at e
    have sub : List.range CONNS ⊆ s.conns.map (·.number) := fun k hk => by
      have := e k hk
      have : (pick s.conns k).isSome = true := by
        cases q : pick s.conns k with
        | none => rw [conn_eq, q] at this; simp at this
        | some c => rfl
      obtain ⟨c, hc, e2⟩ := pick_isSome.mp this
      rw [← e2]
      exact List.mem_map_of_mem hc
    have := List.Nodup.length_le_of_subset List.nodup_range sub
    rw [List.length_range, List.length_map] at this
    unfold CONNS at this
    omega
  | some k =>
    refine ⟨k, rfl, fun j hj => ?_, ?_⟩
    · rw [List.find?_range_eq_some] at e
      have := e.2.2 j hj
      cases q : pick s.conns j with
      | none => rw [conn_eq, q] at this; simp at this
      | some c => rfl
    · have := List.find?_some e
      rw [conn_eq] at this
      simpa using this
end Fd
end
section
namespace Fd
open Sw55
theorem NoIdle.ends {r : Rules} {s : Server} (h : NoIdle r s) (e : Option Nat) : NoIdle r { s with ends := e } := fun c hc => h c hc
theorem then_nil (s : Server) (f : Server → Does) : Does.then_ (s, []) f = f s := by
  unfold Does.then_
  simp
def endDue (s : Server) : Does := (quietOut s).then_ fun c => (graceOut c).then_ after
theorem halt_bad {s : Server} {g n : Nat} (h : TIME < n ∨ 2 ^ 31 < g) : Sw55.step s (.halt_ g n) = says s (-1) := by
  unfold Sw55.step
  dsimp only
  rw [if_pos h]
theorem halt_none {s : Server} {g n : Nat} (h : ¬ (TIME < n ∨ 2 ^ 31 < g)) (er : (passes s n).1.rules = none) : Sw55.step s (.halt_ g n) = Sw55.ok (-4) (passes s n) := by
  unfold Sw55.step
  dsimp only
  rw [if_neg h, er]
theorem halt_again {s : Server} {g n : Nat} {r : Rules} (h : ¬ (TIME < n ∨ 2 ^ 31 < g)) (er : (passes s n).1.rules = some r) (ee : (passes s n).1.ends.isSome = true) : Sw55.step s (.halt_ g n) = Sw55.ok (-8) (passes s n) := by
  unfold Sw55.step
  dsimp only
  rw [if_neg h, er]
  dsimp only
  rw [if_pos ee]
theorem halt_in {s : Server} {g n : Nat} {r : Rules} (ok : Ok s) (h : ¬ (TIME < n ∨ 2 ^ 31 < g)) (er : (passes s n).1.rules = some r) (ee : ¬ (passes s n).1.ends.isSome = true) :
    Sw55.step s (.halt_ g n) = Sw55.ok 0 ((passes s n).then_ fun t => endDue { t with ends := some (t.now + g) }) := by
  unfold Sw55.step
  dsimp only
  rw [if_neg h, er]
  dsimp only
  rw [if_neg ee]
  refine congrArg (Sw55.ok 0) (then_congr _ ?_)
  obtain ⟨pok, pset, pnow, prul, pend, pask⟩ := passes_ok ok n
  have er0 : s.rules = some r := by rw [← prul]; exact er
  have ni : NoIdle r { (passes s n).1 with ends := some ((passes s n).1.now + g) } := (passes_noidle ok er0 n).ends _
  unfold endDue
  rw [stop_eq, idle_none ni, then_nil]
theorem halt_wants {s : Server} {g n : Nat} (ok : Ok s) (h : ¬ (TIME < n ∨ 2 ^ 31 < g)) : (passes s n).2.length ≤ (Sw55.step s (.halt_ g n)).2.wants.length := by
  cases er : (passes s n).1.rules with
  | none => rw [halt_none h er]; exact Nat.le_refl _
  | some r =>
    by_cases ee : (passes s n).1.ends.isSome = true
    · rw [halt_again h er ee]; exact Nat.le_refl _
    · rw [halt_in ok h er ee]
      show _ ≤ ((passes s n).2 ++ _).length
      rw [List.length_append]
      exact Nat.le_add_right _ _
end Fd
end
section
namespace Fd
open PySem L2 Sw55
def tidied (ks : List Nat) (c : Conn) : Conn := if c.waiting = [] ∧ c.number ∈ ks then { c with credit := 0 } else c
theorem tidied_number (ks : List Nat) (c : Conn) : (tidied ks c).number = c.number := by unfold tidied; split <;> rfl
def tidyTo (s : Server) (ks : List Nat) : Server := { s with conns := s.conns.map (tidied ks) }
def waits (s : Server) (k : Nat) : Bool := s.conns.any fun c => c.number == k && !c.waiting.isEmpty
theorem tidyTo_nil (s : Server) : tidyTo s [] = s := by
  unfold tidyTo
  have : s.conns.map (tidied []) = s.conns := by
    conv => rhs; rw [← List.map_id s.conns]
    apply List.map_congr_left
    intro c _
    unfold tidied
    rw [if_neg (fun h => nomatch h.2)]
    rfl
  rw [this]
theorem tidyTo_srt {s : Server} (h : Srt s.conns) (ks : List Nat) : Srt (tidyTo s ks).conns := by
  rw [srt_numbers] at h ⊢
  show ((s.conns.map (tidied ks)).map (·.number)).Pairwise _
  rw [List.map_map]
  have : ((fun c : Conn => c.number) ∘ tidied ks) = fun c => c.number := by funext c; exact tidied_number ks c
  rw [this]
  exact h
theorem tidy_eq {s : Server} (h : Ok0 s) : tidy s = { tidyTo s s.row with row := s.row.filter (waits s) } := by
  rw [tidy_def]
  unfold tidyTo
  have e : (s.conns.map fun c => if c.waiting = [] then { c with credit := 0 } else c) = s.conns.map (tidied s.row) := by
    apply List.map_congr_left
    intro c hc
    unfold tidied
    by_cases q : c.waiting = []
    · rw [if_pos q]
      by_cases r : c.number ∈ s.row
      · rw [if_pos ⟨q, r⟩]
      · rw [if_neg (fun z => r z.2)]
        have := h.crd c hc q r
        cases c
        simp only at this
        subst this
        rfl
    · rw [if_neg q, if_neg (fun z => q z.1)]
  rw [e]
  rfl
theorem waits_of {s : Server} (h : Srt s.conns) {x : Conn} (hx : x ∈ s.conns) : waits s x.number = !x.waiting.isEmpty := by
  unfold waits
  rw [Bool.eq_iff_iff, List.any_eq_true]
  constructor
  · rintro ⟨c, hc, e⟩
    rw [Bool.and_eq_true, beq_iff_eq] at e
    rw [← srt_inj h hc hx e.1]
    exact e.2
  · exact fun e => ⟨x, hx, by rw [Bool.and_eq_true, beq_iff_eq]; exact ⟨rfl, e⟩⟩
theorem tidyTo_wait {s : Server} (h : Srt s.conns) {x : Conn} (hx : x ∈ s.conns) (hw : x.waiting ≠ []) (ks : List Nat) : tidyTo s (ks ++ [x.number]) = tidyTo s ks := by
  unfold tidyTo
  congr 1
  apply List.map_congr_left
  intro c hc
  unfold tidied
  by_cases q : c.waiting = [] ∧ c.number ∈ ks
  · rw [if_pos q, if_pos ⟨q.1, List.mem_append_left _ q.2⟩]
  · rw [if_neg q, if_neg]
    rintro ⟨q1, q2⟩
    rcases List.mem_append.mp q2 with q3 | q3
    · exact q ⟨q1, q3⟩
    · have e : c = x := srt_inj h hc hx (by simpa using q3)
      exact hw (by rw [← e]; exact q1)
theorem tidyTo_quiet {s : Server} (h : Srt s.conns) {x : Conn} (hx : x ∈ s.conns) (hw : x.waiting = []) (ks : List Nat) : tidyTo s (ks ++ [x.number]) = (tidyTo s ks).with_ { x with credit := 0 } := by
  unfold tidyTo Server.with_
  congr 1
  rw [List.map_map]
  apply List.map_congr_left
  intro c hc
  show tidied (ks ++ [x.number]) c = if (tidied ks c).number = x.number then { x with credit := 0 } else tidied ks c
  rw [tidied_number]
  by_cases e : c.number = x.number
  · rw [if_pos e]
    have e2 : c = x := srt_inj h hc hx e
    rw [e2]
    unfold tidied
    rw [if_pos ⟨hw, List.mem_append_right _ (List.mem_singleton.mpr rfl)⟩]
  · rw [if_neg e]
    unfold tidied
    by_cases q : c.waiting = [] ∧ c.number ∈ ks
    · rw [if_pos q, if_pos ⟨q.1, List.mem_append_left _ q.2⟩]
    · rw [if_neg q, if_neg]
      rintro ⟨q1, q2⟩
      rcases List.mem_append.mp q2 with q3 | q3
      · exact q ⟨q1, q3⟩
      · exact e (by simpa using q3)
section
variable {P : Program} {w : World} {K : PySem.W.Frag} {mg : Str → Option Value} {base : Heap} {t : Adr}
def sp_tidy_row (t : Adr) : Sp := fun vs H Q _ => ∃ (o : Own) (A : SA) (s : Server) (W : List Want), vs = [.ref A.p] ∧ Rep (clOf t) o H A s W ∧ Ok0 s ∧ Leaves t o H A (tidy s) W (Q .non)
theorem ok_tidy_row (T : Txt K mg t) : FnOk P w K mg base CX0 1 t.ftidy_row t.dtidy_row ["server"] (sp_tidy_row t) := by
  refine T.Ftidy_row.ok sc_tidy_row (fun vs H Q E h => ?_) (fun cdv A outer s H vs Q E hr h => ?_)
  · obtain ⟨o, A, s, W, rfl, _⟩ := h; rfl
  · obtain ⟨o, A, s, W, rfl, R, ok, k⟩ := h
    refine ⟨_, (pss_cons (ps_set (i := 1) sc_tidy_row.nd rfl (Or.inl rfl) (pe_lst pa_nil))
      (pss_cons (ps_for PassesOwn.never rfl (pi_list (pe_fld (pv 0) rfl)) (pg_name (i := 2) sc_tidy_row.nd rfl (Or.inl rfl)) (pss_cons (ps_set (i := 3) sc_tidy_row.nd rfl (Or.inl rfl) (pe_dget (hu_of hr) (pe_fld (pv 0) rfl) (pv 2) (fun _ _ => rfl)))
      (pss_one (ps_if (pt_cmpR op_gt (pe_callB call_len_seq (by rfl) T.len PySem.boot_len (pa_cons (pe_fld (pv 3) rfl) pa_nil)) pe_int (nomark _)) (pss_one (ps_expr (pe_bm PySem.F.plainAttrs_list PySem.F.slot_list_append PySem.F.type_list_append mt_append (pv 1) (pa_cons (pv 2) pa_nil)))) (pss_one (ps_fld (pv 3) pe_int rfl))))))
      (pss_one (ps_fld (pv 0) (pv 1) rfl)))), ?_⟩
    refine ⟨(by show 0 ≤ sizeLine; exact Nat.zero_le _), fun l hl0 => ?_⟩
    have g1 : Grow H (upd H l (.lst [])) := Grow.new hl0
    have R1 := R.grow g1
    have ol : o l = .out := R.free hl0
    have hl1 : (upd H l (.lst [])) l = some (.lst []) := upd_same
    generalize (upd H l (.lst [])) = H1 at g1 R1 hl1
    obtain ⟨dx, ge, hp, hge⟩ := R1.sv
    have rowlen : s.row.length ≤ 64 := by
      have : s.row.length ≤ (s.conns.map (·.number)).length := List.Nodup.length_le_of_subset ok.rnd fun j hj => by
        obtain ⟨c, hc, e⟩ := ok.rin j hj
        rw [← e]; exact List.mem_map_of_mem hc
      rw [List.length_map] at this
      have := ok.len
      omega
    refine ⟨_, rfl, A.p, _, dx, _, _, rfl, hp, T.clServer, T.nServer_row, rfl, A.r, rfl, ⟨_, SqL.of R1.rl⟩, for_list (K := K) (a := A.r) (xs := s.row.map nv) (fun i σ H2 => ∃ (v1 v2 : Option V), σ = [some (.ref A.p), some (.ref l), v1, v2] ∧
      Rep (clOf t) o H2 A (tidyTo s (s.row.take i)) W ∧ H2 l = some (.lst (((s.row.take i).filter (waits s)).map nv)) ∧ Ext o H o H2) ⟨none, none, rfl, by rw [List.take_zero, tidyTo_nil]; exact R1, hl1, g1.ext⟩
      (fun i σ H2 _ ⟨_, _, _, R2, _, _⟩ => SqL.of R2.rl) ?_ ?_⟩
    · rintro i a σ H2 hi ⟨v1, v2, rfl, R2, hl2, ex⟩
      rw [List.getElem?_map] at hi
      obtain ⟨j, hj, rfl⟩ := Option.map_eq_some_iff.mp hi
      obtain ⟨x, hx, rfl⟩ := ok.rin j (List.mem_of_getElem? hj)
      have ts := take_succ_of hj
      have nj : x.number ∉ s.row.take i := by
        have nd2 : (s.row.take (i + 1)).Nodup := ok.rnd.sublist (List.take_sublist _ _)
        rw [ts] at nd2
        exact fun m => (List.nodup_append.mp nd2).2.2 x.number m x.number (by simp) rfl
      have hx2 : x ∈ (tidyTo s (s.row.take i)).conns := by
        refine List.mem_map.mpr ⟨x, hx, ?_⟩
        unfold tidied
        rw [if_neg (fun z => nj z.2)]
      have srt2 := tidyTo_srt ok.srt (s.row.take i)
      obtain ⟨dx2, ge2, hp2, _⟩ := R2.sv
      obtain ⟨g, hg, z, e⟩ := R2.look srt2 hx2
      obtain ⟨dy, ch, lo, hga, hlv⟩ := z.ob
      refine ⟨_, rfl, A.p, _, dx2, _, _, rfl, hp2, T.clServer, T.nServer_inside, rfl, _, rfl, A.d, _, rfl, R2.dget e, ?_⟩
      refine ⟨_, rfl, g.a, _, dy, _, _, rfl, hga, T.clGuest, T.nGuest_waiting, rfl, g.wa, _, rfl, .inl (SqL.of z.wl), _, _, rfl, rfl, _, rfl, ?_⟩
      have lw : (g.wq.map V.ref).length = x.waiting.length := by rw [List.length_map, z.wr.length]
      rw [lw]
      refine ite2 (fun q => ?_) (fun q => ?_)
      · have q1 := of_decide_eq_true q
        have ne : x.waiting ≠ [] := fun y => by rw [y] at q1; simp at q1
        have nla : l ≠ A.r := ne_role ol R.orow (by intro q; cases q)
        refine ⟨_, rfl, .inl ⟨rfl, _, SqL.of hl2⟩, _, rfl, l, _, _, rfl, rfl, hl2, ?_, ?_⟩
        · rw [List.length_map]
          have h1 := List.length_filter_le (waits s) (s.row.take i)
          have h2 : (s.row.take i).length ≤ s.row.length := by rw [List.length_take]; omega
          show _ < 16777216
          omega
        · refine ⟨some (nv x.number), some (V.ref g.a), rfl, ?_, ?_, ?_⟩
          · rw [ts, tidyTo_wait ok.srt hx ne]
            exact R2.upd_out ol
          · rw [upd_same, ts, List.filter_append, List.map_append]
            have : [x.number].filter (waits s) = [x.number] := by
              rw [List.filter_cons_of_pos]
              · rfl
              · rw [waits_of ok.srt hx]
                cases y : x.waiting with
                | nil => exact absurd y ne
                | cons a b => rfl
            rw [this]
            rfl
          · intro b u hb r
            obtain ⟨e1, e2⟩ := ex b u hb r
            exact ⟨by rw [upd_ne (ne_of_none hb hl0)]; exact e1, e2⟩
      · have eq : x.waiting = [] := by
          cases y : x.waiting with
          | nil => rfl
          | cons a b => exact absurd (decide_eq_true (by rw [y]; simp)) q
        have nlg : l ≠ g.a := ne_role ol z.oa (by intro q; cases q)
        refine ⟨_, rfl, g.a, _, dy, _, rfl, hga, T.clGuest, T.nGuest_credit, (by show 8 < 1000; decide), ?_⟩
        have R3 := R2.gput srt2 hg hx2 z (x' := { x with credit := 0 }) rfl rfl rfl (dx := dy) (ch := ch) (lo := lo) hlv
        rw [map_same (R2.nd srt2) hg] at R3
        refine ⟨some (nv x.number), some (V.ref g.a), rfl, ?_, ?_, ex.trans (Ext.gput z)⟩
        · rw [ts, tidyTo_quiet ok.srt hx eq]
          exact R3
        · rw [upd_ne nlg, hl2, ts, List.filter_append]
          have : [x.number].filter (waits s) = [] := by
            rw [List.filter_cons_of_neg]
            · rfl
            · rw [waits_of ok.srt hx, eq]; simp
          rw [this, List.append_nil]
    · rintro σ H2 ⟨v1, v2, rfl, R2, hl2, ex⟩
      rw [List.length_map, List.take_length] at R2 hl2
      obtain ⟨dx2, ge2, hp2, hge2⟩ := R2.sv
      refine ⟨_, rfl, _, rfl, A.p, _, dx2, _, rfl, hp2, T.clServer, T.nServer_row, (by show 10 < 1000; decide), ?_⟩
      have R3 := R2.newrow (dx := dx2) ol hl2 hge2
      rw [tidy_eq ok] at k
      refine k.use R3 rfl ?_
      intro b u hb r
      obtain ⟨e1, e2⟩ := ex b u hb r
      refine ⟨?_, by rw [setR_ne (ne_of_none hb hl0)]⟩
      rw [upd_ne (fun y => by rw [y, R.os] at r; rcases r with r | r <;> cases r)]
      exact e1
end
end Fd
end
section
namespace Fd
open PySem L2 Sw55
def startS (s : Server) (x : Conn) (q : Req) (l : List Req) (row : List Nat) : Server :=
  { s with row := if l = [] then row else x.number :: row }.with_ { x with credit := if l = [] then 0 else x.credit - q.cost, waiting := l, working := x.working ++ [(q.id, s.now)] }
theorem ids_ne {x : Conn} {q : Req} {l : List Req} (h : (x.waiting.map (·.id) ++ x.working.map (·.1)).Nodup) (e : x.waiting = q :: l) : (∀ q' ∈ l, q'.id ≠ q.id) ∧ ∀ y ∈ x.working, y.1 ≠ q.id := by
  rw [e, List.map_cons, List.cons_append] at h
  have n := (List.nodup_cons.mp h).1
  exact ⟨fun q' hq z => n (List.mem_append_left _ (by rw [← z]; exact List.mem_map_of_mem hq)), fun y hy z => n (List.mem_append_right _ (by rw [← z]; exact List.mem_map_of_mem hy))⟩
theorem paired_cons_inv {α β : Type} {F : α → β → Prop} {l : List α} {b : β} {m : List β} (h : Paired F l (b :: m)) : ∃ a r, l = a :: r ∧ F a b ∧ Paired F r m := by
  cases h with
  | cons r t => exact ⟨_, _, rfl, r, t⟩
theorem sidx0 (n : Nat) : seqIndex? 0 (n + 1) = some 0 := by
  unfold seqIndex?
  simp
section
variable {P : Program} {w : World} {K : PySem.W.Frag} {mg : Str → Option Value} {base : Heap} {t : Adr}
def sp_start_first (t : Adr) : Sp := fun vs H Q _ => ∃ (o : Own) (A : SA) (s : Server) (W : List Want) (x : Conn) (q : Req) (l : List Req) (row : List Nat), vs = [.ref A.p, nv x.number] ∧ Rep (clOf t) o H A s W ∧ Ok0 s ∧ x ∈ s.conns ∧ x.waiting = q :: l ∧ q.cost ≤ x.credit ∧ s.row = x.number :: row ∧
  x.working.length < sizeLine ∧ W.length < sizeLine ∧ Leaves t o H A (startS s x q l row) (W ++ [.start x.number q.id q.bytes]) (Q .non)
theorem ok_start_first (T : Txt K mg t) : FnOk P w K mg base CX0 2 t.fstart_first t.dstart_first ["server", "who"] (sp_start_first t) := by
  have G_want_start : FnOk P w K mg base CX0 1 t.fwant_start t.dwant_start ["server", "who", "request"] (sp_want_start t) := ok_want_start T
  refine T.Fstart_first.ok sc_start_first (fun vs H Q E h => ?_) (fun cdv A outer s H vs Q E hr h => ?_)
  · obtain ⟨o, A, s, W, x, q, l, row, rfl, _⟩ := h; rfl
  · obtain ⟨o, A, s, W, x, q, l, row, rfl, R, ok, hx, ew, hge, erow, hk, hW, kk⟩ := h
    refine ⟨_, (pss_cons (ps_set (i := 2) sc_start_first.nd rfl (Or.inl rfl) (pe_dget (hu_of hr) (pe_fld (pv 0) rfl) (pv 1) (fun _ _ => rfl)))
      (pss_cons (ps_set (i := 3) sc_start_first.nd rfl (Or.inl rfl) (pe_bm PySem.F.plainAttrs_list PySem.F.slot_list_pop PySem.F.type_list_pop mt_popAt (pe_fld (pv 2) rfl) (pa_cons pe_int pa_nil)))
      (pss_cons (ps_fld (pv 3) (pe_fld (pv 0) rfl) rfl)
      (pss_cons (ps_expr (pe_bm PySem.F.plainAttrs_list PySem.F.slot_list_append PySem.F.type_list_append mt_append (pe_fld (pv 2) rfl) (pa_cons (pv 3) pa_nil)))
      (pss_cons (ps_fld (pv 2) (pe_op op_sub (pe_fld (pv 2) rfl) (pe_fld (pv 3) rfl)) rfl)
      (pss_cons (ps_expr (pe_call G_want_start hr rfl T.mwant_start T.Fwant_start.kp T.bwant_start .nil pass0 (pa_cons (pv 0) (pa_cons (pv 1) (pa_cons (pv 3) pa_nil)))))
      (pss_one (ps_if (pt_cmpR op_eq (pe_callB call_len_seq (by rfl) T.len PySem.boot_len (pa_cons (pe_fld (pv 2) rfl) pa_nil)) pe_int (nomark _)) (pss_cons (ps_fld (pv 2) pe_int rfl)
      (pss_one (ps_expr (pe_bm PySem.F.plainAttrs_list PySem.F.slot_list_pop PySem.F.type_list_pop mt_popAt (pe_fld (pv 0) rfl) (pa_cons pe_int pa_nil))))) pss_nil)))))))), ?_⟩
    obtain ⟨dx, ge, hp, _⟩ := R.sv
    obtain ⟨g, hg, z, e⟩ := R.look ok.srt hx
    obtain ⟨dy, ch, lo, hga, hlv⟩ := z.ob
    have zw := z.wr
    rw [ew] at zw
    obtain ⟨a, wq, ewq, wa, zw2⟩ := paired_cons_inv zw
    have hwl := z.wl
    rw [ewq] at hwl
    obtain ⟨dq, da, ha, hda, oda⟩ := wa.ob
    have oa := wa.ro
    obtain ⟨ne1, ne2⟩ := ids_ne (ok.cok x hx).ids ew
    have n_wa_a : g.wa ≠ a := ne_role z.ow oa (by intro q; cases q)
    have n_wa_k : g.wa ≠ g.ka := ne_role z.ow z.ok (by intro q; cases q)
    have n_wa_g : g.wa ≠ g.a := ne_role z.ow z.oa (by intro q; cases q)
    have n_a_k : a ≠ g.ka := ne_role oa z.ok (by intro q; cases q)
    have n_a_g : a ≠ g.a := ne_role oa z.oa (by intro q; cases q)
    have n_k_g : g.ka ≠ g.a := ne_role z.ok z.oa (by intro q; cases q)
    have n_p_wa : A.p ≠ g.wa := ne_role R.os z.ow (by intro q; cases q)
    refine ⟨_, rfl, A.p, _, dx, _, _, rfl, hp, T.clServer, T.nServer_inside, rfl, _, rfl, A.d, _, rfl, R.dget e, ?_⟩
    refine ⟨_, rfl, g.a, _, dy, _, _, rfl, hga, T.clGuest, T.nGuest_waiting, rfl, .inl ⟨rfl, _, SqL.of hwl⟩, g.wa, _, 0, 0, V.ref a, rfl, rfl, hwl, by decide, by decide, (by rw [List.length_map, List.length_cons]; exact sidx0 _), rfl, ?_⟩
    refine ⟨_, rfl, A.p, t.CServer, dx, sf (rv s A.u) s.now A.d A.r s.ends.isSome ge s.asked s.answered s.refused A.w, nv s.now, rfl, (by rw [upd_ne n_p_wa]; exact hp), T.clServer, T.nServer_now, rfl, _, rfl, a, t.CRequest, dq, qf q.id q.cost da q.since, rfl, (by rw [upd_ne n_wa_a.symm]; exact ha), T.clRequest, T.nRequest_since, (by show 4 < 1000; decide), ?_⟩
    refine ⟨_, rfl, g.a, t.CGuest, dy, gf x.from_ x.weight x.credit g.wa g.ka x.heard ch lo, V.ref g.ka, rfl, (by rw [upd_ne n_a_g.symm, upd_ne n_wa_g.symm]; exact hga), T.clGuest, T.nGuest_working, rfl, .inl ⟨rfl, _, SqL.of (by rw [upd_ne n_a_k.symm, upd_ne n_wa_k.symm]; exact z.kl)⟩, _, rfl, g.ka, _, _, rfl, rfl, (by rw [upd_ne n_a_k.symm, upd_ne n_wa_k.symm]; exact z.kl), (by rw [List.length_map, z.kr.length]; exact hk), ?_⟩
    refine ⟨_, rfl, g.a, t.CGuest, dy, gf x.from_ x.weight x.credit g.wa g.ka x.heard ch lo, nv x.credit, rfl, (by rw [upd_ne n_k_g.symm, upd_ne n_a_g.symm, upd_ne n_wa_g.symm]; exact hga), T.clGuest, T.nGuest_credit, rfl, _, rfl, a, t.CRequest, dq, qf q.id q.cost da s.now, nv q.cost, rfl, (by rw [upd_ne n_a_k]; exact upd_same), T.clRequest, T.nRequest_cost, rfl, _, _, rfl, rfl, _, rfl, g.a, t.CGuest, dy, gf x.from_ x.weight x.credit g.wa g.ka x.heard ch lo, rfl, (by rw [upd_ne n_k_g.symm, upd_ne n_a_g.symm, upd_ne n_wa_g.symm]; exact hga), T.clGuest, T.nGuest_credit, (by show 8 < 1000; decide), ?_⟩
    have ecr : (x.credit : Int) - (q.cost : Int) = ((x.credit - q.cost : Nat) : Int) := by omega
    let x1 : Conn := { x with credit := x.credit - q.cost, waiting := l, working := x.working ++ [(q.id, s.now)] }
    let g1 : GA := { g with wq := wq, kq := g.kq ++ [a] }
    obtain ⟨H4, eH4⟩ : ∃ H4, H4 = upd (upd (upd (upd H g.wa (.lst (wq.map V.ref))) a (.ins t.CRequest dq (qf q.id q.cost da s.now))) g.ka (.lst (g.kq.map V.ref ++ [V.ref a]))) g.a (.ins t.CGuest dy (gf x.from_ x.weight (x.credit - q.cost) g.wa g.ka x.heard ch lo)) := ⟨_, rfl⟩
    have old4 : ∀ {b : Addr} {u : HO}, H b = some u → b ≠ g.wa → b ≠ a → b ≠ g.ka → b ≠ g.a → H4 b = some u := fun hb h1 h2 h3 h4 => by rw [eH4, upd_ne h4, upd_ne h3, upd_ne h2, upd_ne h1]; exact hb
    have reqs : ∀ {b : Addr} {u : HO} {i : Nat}, H b = some u → o b = .req x.number i → i ≠ q.id → H4 b = some u := fun {b u i} hb ob ni => old4 hb (ne_role ob z.ow (by intro q; cases q)) (ne_role ob oa (by intro y; cases y; exact ni rfl)) (ne_role ob z.ok (by intro q; cases q)) (ne_role ob z.oa (by intro q; cases q))
    have dat : ∀ {b : Addr} {u : HO}, H b = some u → o b = .data → H4 b = some u := fun {b u} hb ob => old4 hb (ne_role ob z.ow (by intro q; cases q)) (ne_role ob oa (by intro y; cases y)) (ne_role ob z.ok (by intro q; cases q)) (ne_role ob z.oa (by intro q; cases q))
    have ha4 : H4 a = some (.ins t.CRequest dq (qf q.id q.cost da s.now)) := by rw [eH4, upd_ne n_a_g, upd_ne n_a_k]; exact upd_same
    have z4 : GuestAt (clOf t) o H4 s.rules s.now g1 x1 := by
      refine ⟨z.nm, ⟨dy, ch, lo, by rw [eH4]; exact upd_same, hlv⟩, z.oa, ?_, z.ow, ?_, z.ok, ?_, ?_⟩
      · show H4 g.wa = _
        rw [eH4, upd_ne n_wa_g, upd_ne n_wa_k, upd_ne n_wa_a]; exact upd_same
      · show H4 g.ka = some (.lst ((g.kq ++ [a]).map V.ref))
        rw [eH4, upd_ne n_k_g, upd_same, List.map_append]; rfl
      · refine paired_imp zw2 fun b q' _ hq' y => y.keepR fun b2 u hb r => ⟨?_, rfl⟩
        rcases r with r | r
        · exact reqs hb r (ne1 q' hq')
        · exact dat hb r
      · refine paired_snoc (paired_imp z.kr fun b y' _ hy' y => y.keepR fun b2 u hb r => ⟨reqs hb r (ne2 y' hy'), rfl⟩) ⟨⟨dq, q.cost, da, ha4⟩, oa⟩
    have R4 := R.guest ok.srt (H' := H4) (o' := o) (g' := g1) hg hx z (x' := x1) rfl rfl (fun b u hb no nk => ⟨old4 hb (fun y => nk (by rw [y, z.ow]; rfl)) (fun y => nk (by rw [y, oa]; rfl)) (fun y => nk (by rw [y, z.ok]; rfl)) (fun y => nk (by rw [y, z.oa]; rfl)), rfl⟩) (fun b n => by rw [eH4]; exact upd_dom (upd_dom (upd_dom (upd_dom (R.dom b n))))) z4
    have ex4 : Ext o H o H4 := fun b u hb r => ⟨old4 hb (fun y => by rw [y, z.ow] at r; rcases r with r | r <;> cases r) (fun y => by rw [y, oa] at r; rcases r with r | r <;> cases r) (fun y => by rw [y, z.ok] at r; rcases r with r | r <;> cases r) (fun y => by rw [y, z.oa] at r; rcases r with r | r <;> cases r), rfl⟩
    dsimp only
    rw [ecr]
    subst eH4
    refine ⟨_, rfl, _, rfl, _, rfl, o, { A with gs := A.gs.map fun y => if y.k = g.k then g1 else y }, s.with_ x1, W, x.number, q.id, q.cost, s.now, a, dq, da, q.bytes, rfl, R4, hW, ha4, (dat hda oda), wa.sz, ?_⟩
    intro y' o5 H5 R5 kp5
    have z5 : GuestAt (clOf t) o5 H5 s.rules s.now g1 x1 := z4.keep (Nat.le_refl _) fun b u hb r => kp5 b u hb (by intro y; rw [y] at r; rcases r with r | r <;> cases r) (by intro y; rw [y] at r; rcases r with r | r <;> cases r)
    obtain ⟨dy5, ch5, lo5, hga5, hlv5⟩ := z5.ob
    refine ⟨_, rfl, g.a, _, dy5, _, _, rfl, hga5, T.clGuest, T.nGuest_waiting, rfl, g.wa, _, rfl, .inl (SqL.of z5.wl), rfl, _, rfl, ?_⟩
    have lw : (wq.map V.ref).length = l.length := by rw [List.length_map, zw2.length]
    have g1m : g1 ∈ (A.gs.map fun y => if y.k = g.k then g1 else y) := List.mem_map.mpr ⟨g, hg, if_pos rfl⟩
    have x1m : x1 ∈ (s.with_ x1).conns := mem_repl.mpr (.inr ⟨rfl, x, hx, rfl⟩)
    have srt1 : Srt (s.with_ x1).conns := srt_repl ok.srt
    show if decide (V.int ((wq.map V.ref).length : Int) = V.int 0) = true then _ else _
    rw [len_zero]
    refine ite2 (fun q0 => ?_) (fun q0 => ?_)
    · have el : l = [] := by
        rw [List.isEmpty_iff_length_eq_zero, lw] at q0
        exact List.length_eq_zero_iff.mp q0
      have R6 := R5.gput srt1 g1m x1m z5 (x' := { x1 with credit := 0 }) rfl rfl rfl (dx := dy5) (ch := ch5) (lo := lo5) hlv5
      refine ⟨_, rfl, g.a, _, dy5, _, rfl, hga5, T.clGuest, T.nGuest_credit, (by show 8 < 1000; decide), ?_⟩
      obtain ⟨dx6, ge6, hp6, _⟩ := R6.sv
      have hr6 := R6.rl
      have er6 : (((s.with_ x1).with_ { x1 with credit := 0 }).row.map nv) = nv x.number :: row.map nv := by show s.row.map nv = _; rw [erow]; rfl
      rw [er6] at hr6
      refine ⟨_, rfl, A.p, _, dx6, _, _, rfl, hp6, T.clServer, T.nServer_row, rfl, .inl ⟨rfl, _, SqL.of hr6⟩, A.r, _, 0, 0, nv x.number, rfl, rfl, hr6, by decide, by decide, (by rw [List.length_cons]; exact sidx0 _), rfl, ?_⟩
      have R7 := R6.setrow row
      have es : ({ (s.with_ x1).with_ { x1 with credit := 0 } with row := row } : Server) = startS s x q l row := by
        unfold startS
        rw [if_pos el, if_pos el]
        show ({ s with conns := repl { x1 with credit := 0 } (repl x1 s.conns), row := row } : Server) = { s with conns := repl _ s.conns, row := row }
        rw [repl_repl (d := { x1 with credit := 0 }) (e := x1) rfl]
      rw [es] at R7
      exact kk.use R7 rfl (((ex4.trans kp5.ext).trans (Ext.gput z5)).trans (Ext.setrow R6))
    · have el : l ≠ [] := fun y => q0 (by rw [List.isEmpty_iff_length_eq_zero, lw, y]; rfl)
      have es : s.with_ x1 = startS s x q l row := by
        unfold startS
        rw [if_neg el, if_neg el, ← erow]
      rw [es] at R5
      exact kk.use R5 rfl (ex4.trans kp5.ext)
end
end Fd
end
section
namespace Fd
open PySem L2 Sw55
theorem Turn.work {s s1 : Server} {w : List Want} (h : Srt s.conns) (t : Turn s s1 w) : s1.working = s.working + w.length := by
  cases t with
  | @more r k row c q l hr hw hrow hc hk hq hlt =>
    have e2 := sum_repl (fun x => x.working.length) (c := c) (d := { c with credit := c.credit + 1000 * c.weight }) rfl h hc
    show ((repl _ s.conns).map fun c => c.working.length).sum = (s.conns.map fun c => c.working.length).sum + 0
    simp only at e2
    omega
  | @starts r k row c q l hr hw hrow hc hk hq hge =>
    have e2 := sum_repl (fun x => x.working.length) (c := c) (d := { c with credit := if l = [] then 0 else c.credit - q.cost, waiting := l, working := c.working ++ [(q.id, s.now)] }) rfl h hc
    show ((repl _ s.conns).map fun c => c.working.length).sum = (s.conns.map fun c => c.working.length).sum + 1
    simp only [List.length_append, List.length_singleton] at e2
    omega
theorem held_le {s : Server} (h : Ok0 s) {x : Conn} (hx : x ∈ s.conns) : x.waiting.length + x.working.length ≤ s.asked := by
  have key : ∀ {l : List Conn}, x ∈ l → held x ≤ (l.map held).sum := by
    intro l
    induction l with
    | nil => intro q; cases q
    | cons y r ih =>
      intro q
      rw [List.map_cons, List.sum_cons]
      rcases List.mem_cons.mp q with e | e
      · rw [e]; omega
      · have := ih e; omega
  exact Nat.le_trans (key hx) h.cnt
theorem row_le {s : Server} (ok : Ok0 s) : s.row.length ≤ 64 := by
  have : s.row.length ≤ (s.conns.map (·.number)).length := List.Nodup.length_le_of_subset ok.rnd fun j hj => by
    obtain ⟨c, hc, e⟩ := ok.rin j hj
    rw [← e]; exact List.mem_map_of_mem hc
  rw [List.length_map] at this
  have := ok.len
  omega
section
variable {P : Program} {w : World} {K : PySem.W.Frag} {mg : Str → Option Value} {base : Heap} {t : Adr}
def sp_take_turns (t : Adr) : Sp := fun vs H Q _ => ∃ (o : Own) (A : SA) (s : Server) (W : List Want) (r : Rules), vs = [.ref A.p] ∧ Rep (clOf t) o H A s W ∧ Ok s ∧ s.rules = some r ∧ s.asked < 100000 ∧ W.length + (allTurns s).2.length < sizeLine ∧ Leaves t o H A (allTurns s).1 (W ++ (allTurns s).2) (Q .non)
theorem ok_take_turns (T : Txt K mg t) : FnOk P w K mg base CX0 3 t.ftake_turns t.dtake_turns ["server"] (sp_take_turns t) := by
  have G_start_first : FnOk P w K mg base CX0 2 t.fstart_first t.dstart_first ["server", "who"] (sp_start_first t) := ok_start_first T
  have G_count_working : FnOk P w K mg base CX0 2 t.fcount_working t.dcount_working ["server"] (sp_count_working t) := (ok_count_working T).mono (by decide)
  refine T.Ftake_turns.ok sc_take_turns (fun vs H Q E h => ?_) (fun cdv A outer s H vs Q E hr h => ?_)
  · obtain ⟨o, A, s, W, r, rfl, _⟩ := h; rfl
  · obtain ⟨o, A, s, W, r, rfl, R, ok, er, has, hW, k⟩ := h
    refine ⟨_, (pss_cons (ps_set (i := 1) sc_take_turns.nd rfl (Or.inl rfl) (pe_op op_sub (pe_fld (pe_fld (pv 0) rfl) rfl) (pe_call G_count_working hr rfl T.mcount_working T.Fcount_working.kp T.bcount_working .nil pass0 (pa_cons (pv 0) pa_nil))))
      (pss_one (ps_while PassesOwn.never (pw_and (pt_cmpR op_gt (pv 1) pe_int (nomark _)) (pw_and1 (pt_cmpR op_gt (pe_callB call_len_seq (by rfl) T.len PySem.boot_len (pa_cons (pe_fld (pv 0) rfl) pa_nil)) pe_int (nomark _)))).pt (pss_cons (ps_set (i := 2) sc_take_turns.nd rfl (Or.inl rfl) (pe_ix ix_list (pe_fld (pv 0) rfl) pe_int (fun _ _ => rfl)))
      (pss_cons (ps_set (i := 3) sc_take_turns.nd rfl (Or.inl rfl) (pe_dget (hu_of hr) (pe_fld (pv 0) rfl) (pv 2) (fun _ _ => rfl)))
      (pss_one (ps_if (pt_cmpR op_ge (pe_fld (pv 3) rfl) (pe_fld (pe_ix ix_list (pe_fld (pv 3) rfl) pe_int (fun _ _ => rfl)) rfl) (nomark _)) (pss_cons (ps_expr (pe_call G_start_first hr rfl T.mstart_first T.Fstart_first.kp T.bstart_first .nil pass0 (pa_cons (pv 0) (pa_cons (pv 2) pa_nil))))
      (pss_one (ps_set (i := 1) sc_take_turns.nd rfl (Or.inl rfl) (pe_op op_sub (pv 1) pe_int)))) (pss_cons (ps_fld (pv 3) (pe_op op_add (pe_fld (pv 3) rfl) (pe_op op_mul (pe_gi rfl T.cCREDIT_FOR_WEIGHT) (pe_fld (pv 3) rfl))) rfl)
      (pss_one (ps_expr (pe_bm PySem.F.plainAttrs_list PySem.F.slot_list_append PySem.F.type_list_append mt_append (pe_fld (pv 0) rfl) (pa_cons (pe_bm PySem.F.plainAttrs_list PySem.F.slot_list_pop PySem.F.type_list_pop mt_popAt (pe_fld (pv 0) rfl) (pa_cons pe_int pa_nil)) pa_nil)))))))))))), ?_⟩
    obtain ⟨dx, ge, dz, hp, hge, hu, ou⟩ := R.rules er
    refine ⟨_, rfl, A.p, _, dx, _, _, rfl, hp, T.clServer, T.nServer_rules, rfl, A.u, _, dz, _, _, rfl, hu, T.clRules, T.nRules_work, rfl, _, rfl, o, A, s, W, rfl, R, ok.toOk0, fun H1 g1 => ⟨_, _, rfl, rfl, ?_⟩⟩
    refine ⟨fun m σ H2 => ∃ (v1 v2 : Option V) (o2 : Own) (A2 : SA) (s2 : Server) (w2 : List Want), σ = [some (.ref A.p), some (.int ((r.work : Int) - (s2.working : Int))), v1, v2] ∧ A2.p = A.p ∧ Rep (clOf t) o2 H2 A2 s2 (W ++ w2) ∧ Ext o H o2 H2 ∧ Ok s2 ∧
      s2.rules = some r ∧ s2.asked = s.asked ∧ allTurns s = ((allTurns s2).1, w2 ++ (allTurns s2).2) ∧ m = need s2, ⟨need s, none, none, o, A, s, [], rfl, rfl, by rw [List.append_nil]; exact R.grow g1, g1.ext, ok, er, rfl, by rw [List.nil_append], rfl⟩, ?_⟩
    rintro m σ H2 ⟨v1, v2, o2, A2, s2, w2, rfl, ep, R2, ex, ok2, er2, ea, ealt, rfl⟩
    obtain ⟨dx2, ge2, dz2, hp2, hge2, hu2, ou2⟩ := R2.rules er2
    rw [ep] at hp2
    have stop : turn1 s2 = none → (Q .non H2) := fun h1 => by
      rw [ealt, allTurns_none ok2 h1] at k
      rw [List.append_nil] at k
      exact k o2 H2 A2 ep R2 ex
    refine ⟨_, rfl, _, _, rfl, rfl, _, rfl, ?_⟩
    refine ite2 (fun z1 => ?_) (fun z1 => ?_)
    · have hw : s2.working < r.work := by have := of_decide_eq_true z1; omega
      refine ⟨_, rfl, A.p, _, dx2, _, _, rfl, hp2, T.clServer, T.nServer_row, rfl, A2.r, _, rfl, .inl (SqL.of R2.rl), _, _, rfl, rfl, _, rfl, ?_⟩
      refine ite2 (fun z2 => ?_) (fun z2 => ?_)
      · have hl := of_decide_eq_true z2
        rw [List.length_map] at hl
        obtain ⟨k2, row, erow⟩ : ∃ k2 row, s2.row = k2 :: row := by
          cases e : s2.row with
          | nil => rw [e] at hl; simp at hl
          | cons a b => exact ⟨a, b, rfl⟩
        obtain ⟨x, hx, hxk⟩ := ok2.rin k2 (by rw [erow]; exact List.mem_cons_self)
        subst hxk
        obtain ⟨q, l, ew⟩ : ∃ q l, x.waiting = q :: l := by
          cases e : x.waiting with
          | nil => exact absurd e (ok2.row x hx (by rw [erow]; exact List.mem_cons_self))
          | cons a b => exact ⟨a, b, rfl⟩
        have hrl := R2.rl
        rw [erow] at hrl
        obtain ⟨g, hg, z, e⟩ := R2.look ok2.srt hx
        obtain ⟨dy, ch, lo, hga, hlv⟩ := z.ob
        have zw := z.wr
        rw [ew] at zw
        obtain ⟨a, wq, ewq, wa, zw2⟩ := paired_cons_inv zw
        have hwl := z.wl
        rw [ewq] at hwl
        obtain ⟨dq, da, ha, hda, oda⟩ := wa.ob
        have hh := held_le ok2.toOk0 hx
        refine ⟨fun σ' H' => ∃ m', m' < need s2 ∧ ∃ (v1 v2 : Option V) (o2 : Own) (A2 : SA) (s2 : Server) (w2 : List Want), σ' = [some (.ref A.p), some (.int ((r.work : Int) - (s2.working : Int))), v1, v2] ∧ A2.p = A.p ∧ Rep (clOf t) o2 H' A2 s2 (W ++ w2) ∧ Ext o H o2 H' ∧ Ok s2 ∧
          s2.rules = some r ∧ s2.asked = s.asked ∧ allTurns s = ((allTurns s2).1, w2 ++ (allTurns s2).2) ∧ m' = need s2, fun _ _ h => h, ?_⟩
        refine ⟨_, rfl, A.p, _, dx2, _, _, rfl, hp2, T.clServer, T.nServer_row, rfl, A2.r, _, _, _, rfl, rfl, SqL.of hrl, atI_nat (j := 0) rfl, ?_⟩
        refine ⟨_, rfl, A.p, _, dx2, _, _, rfl, hp2, T.clServer, T.nServer_inside, rfl, _, rfl, A2.d, _, rfl, R2.dget e, ?_⟩
        refine ⟨_, rfl, g.a, _, dy, _, _, rfl, hga, T.clGuest, T.nGuest_credit, rfl, _, rfl, g.a, _, dy, _, _, rfl, hga, T.clGuest, T.nGuest_waiting, rfl, g.wa, _, _, _, rfl, rfl, SqL.of hwl, atI_nat (j := 0) rfl, a, _, dq, _, _, rfl, ha, T.clRequest, T.nRequest_cost, rfl, _, _, rfl, rfl, _, rfl, ?_⟩
        refine ite2 (fun z3 => ?_) (fun z3 => ?_)
        · have hge3 : q.cost ≤ x.credit := by have := of_decide_eq_true z3; omega
          have tn : Turn s2 (startS s2 x q l row) [.start x.number q.id q.bytes] := .starts er2 hw erow hx rfl ew hge3
          have al := allTurns_some ok2 tn
          obtain ⟨ok3, nd3⟩ := tn.ok ok2
          refine ⟨_, rfl, _, rfl, o2, A2, s2, W ++ w2, x, q, l, row, (by rw [ep]; rfl), R2, ok2.toOk0, hx, ew, hge3, erow, (by show _ < 16777216; omega), ?_, fun o3 H3 A3 ep3 R3 ex3 => ?_⟩
          · rw [ealt, al] at hW
            simp only [List.length_append] at hW ⊢
            omega
          · refine ⟨_, rfl, _, _, rfl, rfl, need (startS s2 x q l row), nd3, some (nv x.number), some (V.ref g.a), o3, A3, startS s2 x q l row, w2 ++ [.start x.number q.id q.bytes], ?_, ep3.trans ep, ?_, ex.trans ex3, ok3, er2, ea, ?_, rfl⟩
            · have e4 := tn.work ok2.srt
              rw [e4]
              show [some (V.ref A.p), some (V.int ((r.work : Int) - (s2.working : Int) - 1)), _, _] = [_, some (V.int ((r.work : Int) - ((s2.working + 1 : Nat) : Int))), _, _]
              have e5 : (r.work : Int) - (s2.working : Int) - 1 = (r.work : Int) - ((s2.working + 1 : Nat) : Int) := by omega
              rw [e5]
            · rw [← List.append_assoc]; exact R3
            · rw [ealt, al, List.append_assoc]
        · have hlt3 : x.credit < q.cost := by
            rcases Nat.lt_or_ge x.credit q.cost with y | y
            · exact y
            · exact absurd (decide_eq_true (by omega)) z3
          have tn : Turn s2 ({ s2 with row := row ++ [x.number] }.with_ { x with credit := x.credit + 1000 * x.weight }) [] := .more er2 hw erow hx rfl ew hlt3
          have al := allTurns_some ok2 tn
          obtain ⟨ok3, nd3⟩ := tn.ok ok2
          refine ⟨_, rfl, g.a, _, dy, _, _, rfl, hga, T.clGuest, T.nGuest_credit, rfl, _, rfl, g.a, _, dy, _, _, rfl, hga, T.clGuest, T.nGuest_weight, rfl, _, _, rfl, rfl, .inl ⟨by decide, by decide⟩, _, _, rfl, rfl, _, rfl, g.a, _, dy, _, rfl, hga, T.clGuest, T.nGuest_credit, (by show 8 < 1000; decide), ?_⟩
          have ecr : (x.credit : Int) + 1000 * (x.weight : Int) = ((x.credit + 1000 * x.weight : Nat) : Int) := by omega
          dsimp only
          rw [ecr]
          have R3 := R2.gput ok2.srt hg hx z (x' := { x with credit := x.credit + 1000 * x.weight }) rfl rfl rfl (dx := dy) (ch := ch) (lo := lo) hlv
          obtain ⟨dx3, ge3, hp3, _⟩ := R3.sv
          have hrl3 := R3.rl
          have er3 : ((s2.with_ { x with credit := x.credit + 1000 * x.weight }).row.map nv) = nv x.number :: row.map nv := by show s2.row.map nv = _; rw [erow]; rfl
          rw [er3] at hrl3
          have hp3' := hp3
          rw [show ({ A2 with gs := A2.gs.map fun y => if y.k = g.k then g else y } : SA).p = A.p from ep] at hp3'
          refine ⟨_, rfl, A.p, _, dx3, _, _, rfl, hp3', T.clServer, T.nServer_row, rfl, .inl ⟨rfl, _, SqL.of hrl3⟩, _, rfl, A.p, _, dx3, _, _, rfl, hp3', T.clServer, T.nServer_row, rfl, .inl ⟨rfl, _, SqL.of hrl3⟩, A2.r, _, 0, 0, nv x.number, rfl, rfl, hrl3, by decide, by decide, (by rw [List.length_cons]; exact sidx0 _), rfl, ?_⟩
          have rl := row_le ok2.toOk0
          rw [erow, List.length_cons] at rl
          refine ⟨A2.r, row.map nv, _, rfl, rfl, upd_same, (by rw [List.length_map]; show _ < 16777216; omega), ?_⟩
          rw [upd_upd]
          have R4 := R3.setrow (row ++ [x.number])
          refine ⟨need ({ s2 with row := row ++ [x.number] }.with_ { x with credit := x.credit + 1000 * x.weight }), nd3, some (nv x.number), some (V.ref g.a), o2, { A2 with gs := A2.gs.map fun y => if y.k = g.k then g else y }, { s2 with row := row ++ [x.number] }.with_ { x with credit := x.credit + 1000 * x.weight }, w2, ?_, ep, ?_, (ex.trans (Ext.gput z)).trans (Ext.setrow R3), ok3, er2, ea, ?_, rfl⟩
          · have e4 := tn.work ok2.srt
            rw [e4]
            rfl
          · rw [List.map_append] at R4
            exact R4
          · rw [ealt, al, List.nil_append]
      · have h1 : turn1 s2 = none := by
          have : s2.row = [] := by
            cases e : s2.row with
            | nil => rfl
            | cons a b => exact absurd (decide_eq_true (by rw [List.length_map, e]; simp)) z2
          unfold turn1
          simp only [er2, if_neg (Nat.not_le.mpr hw), this]
        exact stop h1
    · have h1 : turn1 s2 = none := by
        unfold turn1
        have : r.work ≤ s2.working := by
          rcases Nat.lt_or_ge s2.working r.work with y | y
          · exact absurd (decide_eq_true (by omega)) z1
          · exact y
        simp only [er2, if_pos this]
      exact stop h1
end
end Fd
end
section
namespace Fd
open PySem L2 Sw55
theorem paired_zip {α β : Type} {F : α → β → Prop} {l : List α} {m : List β} (h : Paired F l m) : ∃ ps : List (α × β), l = ps.map (·.1) ∧ m = ps.map (·.2) ∧ ∀ p ∈ ps, F p.1 p.2 := by
  induction h with
  | nil => exact ⟨[], rfl, rfl, fun _ q => nomatch q⟩
  | @cons a b l m r t ih =>
    obtain ⟨ps, e1, e2, e3⟩ := ih
    refine ⟨(a, b) :: ps, by rw [e1]; rfl, by rw [e2]; rfl, fun p hp => ?_⟩
    rcases List.mem_cons.mp hp with e | e
    · rw [e]; exact r
    · exact e3 p e
theorem zip_paired {α β : Type} {F : α → β → Prop} : ∀ {ps : List (α × β)}, (∀ p ∈ ps, F p.1 p.2) → Paired F (ps.map (·.1)) (ps.map (·.2))
  | [], _ => .nil
  | p :: r, h => .cons (h p List.mem_cons_self) (zip_paired fun q hq => h q (List.mem_cons_of_mem _ hq))
theorem ite_join {c : Prop} [Decidable c] {A B : Prop} (P : Hp → Prop) (F : Hp → Prop) (ha : c → (∀ H5, P H5 → F H5) → A) (hb : ¬ c → (∀ H5, P H5 → F H5) → B) (h : ∀ H5, P H5 → F H5) : if c then A else B := ite2 (fun q => ha q h) (fun q => hb q h)
theorem isLate_pos {r : Rules} (h : 0 < r.limit) (now since : Nat) : isLate r now since = decide (since + r.limit ≤ now) := by
  unfold isLate
  rw [decide_eq_true h, Bool.true_and]
def lateK (r : Rules) (now : Nat) (p : Addr × (Nat × Nat)) : Bool := isLate r now p.2.2
def lateQ (r : Rules) (now : Nat) (p : Addr × Req) : Bool := isLate r now p.2.since
theorem filter_map_snd {α β : Type} (p : β → Bool) (l : List (α × β)) : (l.map (·.2)).filter p = (l.filter fun x => p x.2).map (·.2) := by rw [List.filter_map]; rfl
theorem tells_two (k : Nat) (l : List (Nat × Nat)) (m : List Req) : (((l.flatMap fun w => [Want.cancel k w.1, .tell k w.1 4]) ++ m.map fun q => Want.tell k q.id 4).filter isTell).length = l.length + m.length := by
  rw [List.filter_append, List.length_append]
  congr 1
  · induction l with
    | nil => rfl
    | cons a r ih =>
      rw [List.flatMap_cons, List.filter_append, List.length_append, ih, List.length_cons]
      show 1 + r.length = r.length + 1
      omega
  · rw [List.filter_eq_self.mpr, List.length_map]
    intro w hw
    obtain ⟨q, _, rfl⟩ := List.mem_map.mp hw
    rfl
section
variable {P : Program} {w : World} {K : PySem.W.Frag} {mg : Str → Option Value} {base : Heap} {t : Adr}
def lateS (r : Rules) (s : Server) (x : Conn) : Server := { s with refused := s.refused + ((lateW r s.now x).filter isTell).length }.with_ (late r s.now x)
def sp_drop_late_of (t : Adr) : Sp := fun vs H Q _ => ∃ (o : Own) (A : SA) (s : Server) (W : List Want) (r : Rules) (x : Conn), vs = [.ref A.p, nv x.number] ∧ Rep (clOf t) o H A s W ∧ Srt s.conns ∧ x ∈ s.conns ∧ s.rules = some r ∧ 0 < r.limit ∧
  x.waiting.length + x.working.length < 100000 ∧ W.length + (lateW r s.now x).length < sizeLine ∧ Leaves t o H A (lateS r s x) (W ++ lateW r s.now x) (Q .non)
theorem ok_drop_late_of (T : Txt K mg t) : FnOk P w K mg base CX0 2 t.fdrop_late_of t.ddrop_late_of ["server", "who"] (sp_drop_late_of t) := by
  have G_late_requests : FnOk P w K mg base CX0 1 t.flate_requests t.dlate_requests ["requests", "now", "limit"] (sp_late_requests t) := ok_late_requests T
  have G_timely_requests : FnOk P w K mg base CX0 1 t.ftimely_requests t.dtimely_requests ["requests", "now", "limit"] (sp_timely_requests t) := ok_timely_requests T
  have G_want_cancel : FnOk P w K mg base CX0 1 t.fwant_cancel t.dwant_cancel ["server", "who", "number"] (sp_want_cancel t) := ok_want_cancel T
  have G_want_tell : FnOk P w K mg base CX0 1 t.fwant_tell t.dwant_tell ["server", "who", "number", "why"] (sp_want_tell t) := ok_want_tell T
  refine T.Fdrop_late_of.ok sc_drop_late_of (fun vs H Q E h => ?_) (fun cdv A outer s H vs Q E hr h => ?_)
  · obtain ⟨o, A, s, W, r, x, rfl, _⟩ := h; rfl
  · obtain ⟨o, A, s, W, r, x, rfl, R, srt, hx, er, hlim, hsz, hW, k⟩ := h
    refine ⟨_, (pss_cons (ps_set (i := 2) sc_drop_late_of.nd rfl (Or.inl rfl) (pe_dget (hu_of hr) (pe_fld (pv 0) rfl) (pv 1) (fun _ _ => rfl)))
      (pss_cons (ps_set (i := 3) sc_drop_late_of.nd rfl (Or.inl rfl) (pe_fld (pe_fld (pv 0) rfl) rfl))
      (pss_cons (ps_set (i := 4) sc_drop_late_of.nd rfl (Or.inl rfl) (pe_call G_late_requests hr rfl T.mlate_requests T.Flate_requests.kp T.blate_requests .nil pass0 (pa_cons (pe_fld (pv 2) rfl) (pa_cons (pe_fld (pv 0) rfl) (pa_cons (pv 3) pa_nil)))))
      (pss_cons (ps_set (i := 5) sc_drop_late_of.nd rfl (Or.inl rfl) (pe_call G_late_requests hr rfl T.mlate_requests T.Flate_requests.kp T.blate_requests .nil pass0 (pa_cons (pe_fld (pv 2) rfl) (pa_cons (pe_fld (pv 0) rfl) (pa_cons (pv 3) pa_nil)))))
      (pss_cons (ps_for PassesOwn.never rfl (pi_list (pv 4)) (pg_name (i := 6) sc_drop_late_of.nd rfl (Or.inl rfl)) (pss_cons (ps_expr (pe_call G_want_cancel hr rfl T.mwant_cancel T.Fwant_cancel.kp T.bwant_cancel .nil pass0 (pa_cons (pv 0) (pa_cons (pv 1) (pa_cons (pe_fld (pv 6) rfl) pa_nil)))))
      (pss_one (ps_expr (pe_call G_want_tell hr rfl T.mwant_tell T.Fwant_tell.kp T.bwant_tell .nil pass0 (pa_cons (pv 0) (pa_cons (pv 1) (pa_cons (pe_fld (pv 6) rfl) (pa_cons (pe_gi rfl T.cTELL_TOO_LATE) pa_nil)))))))))
      (pss_cons (ps_for PassesOwn.never rfl (pi_list (pv 5)) (pg_name (i := 6) sc_drop_late_of.nd rfl (Or.inl rfl)) (pss_one (ps_expr (pe_call G_want_tell hr rfl T.mwant_tell T.Fwant_tell.kp T.bwant_tell .nil pass0 (pa_cons (pv 0) (pa_cons (pv 1) (pa_cons (pe_fld (pv 6) rfl) (pa_cons (pe_gi rfl T.cTELL_TOO_LATE) pa_nil))))))))
      (pss_cons (ps_if (pt_cmpR op_gt (pe_op op_add (pe_callB call_len_seq (by rfl) T.len PySem.boot_len (pa_cons (pv 4) pa_nil)) (pe_callB call_len_seq (by rfl) T.len PySem.boot_len (pa_cons (pv 5) pa_nil))) pe_int (nomark _)) (pss_one (ps_fld (pv 2) (pe_fld (pv 0) rfl) rfl)) pss_nil)
      (pss_cons (ps_fld (pv 2) (pe_call G_timely_requests hr rfl T.mtimely_requests T.Ftimely_requests.kp T.btimely_requests .nil pass0 (pa_cons (pe_fld (pv 2) rfl) (pa_cons (pe_fld (pv 0) rfl) (pa_cons (pv 3) pa_nil)))) rfl)
      (pss_one (ps_fld (pv 2) (pe_call G_timely_requests hr rfl T.mtimely_requests T.Ftimely_requests.kp T.btimely_requests .nil pass0 (pa_cons (pe_fld (pv 2) rfl) (pa_cons (pe_fld (pv 0) rfl) (pa_cons (pv 3) pa_nil)))) rfl)))))))))), ?_⟩
    obtain ⟨dx, ge, dz, hp, hge, hu, ou⟩ := R.rules er
    obtain ⟨g, hg, z, e⟩ := R.look srt hx
    obtain ⟨dy, ch, lo, hga, hlv⟩ := z.ob
    obtain ⟨kp, ek1, ek2, ek3⟩ := paired_zip z.kr
    obtain ⟨wp, ew1, ew2, ew3⟩ := paired_zip z.wr
    have lkp : kp.length = x.working.length := by rw [ek2, List.length_map]
    have lwp : wp.length = x.waiting.length := by rw [ew2, List.length_map]
    have hkl := z.kl
    have hwl := z.wl
    have rk : g.kq.map V.ref = refs (kp.map fun p => (p.1, p.2.2)) := by unfold refs; rw [ek1, List.map_map, List.map_map]; rfl
    have rw_ : g.wq.map V.ref = refs (wp.map fun p => (p.1, p.2.since)) := by unfold refs; rw [ew1, List.map_map, List.map_map]; rfl
    rw [rk] at hkl
    rw [rw_] at hwl
    have fk : refs ((kp.map fun p => (p.1, p.2.2)).filter fun y => decide (y.2 + r.limit ≤ s.now)) = (kp.filter (lateK r s.now)).map fun p => V.ref p.1 := by
      unfold refs
      rw [List.filter_map, List.map_map]
      congr 1
      apply List.filter_congr
      intro p _
      exact (isLate_pos hlim s.now p.2.2).symm
    have fw : refs ((wp.map fun p => (p.1, p.2.since)).filter fun y => decide (y.2 + r.limit ≤ s.now)) = (wp.filter (lateQ r s.now)).map fun p => V.ref p.1 := by
      unfold refs
      rw [List.filter_map, List.map_map]
      congr 1
      apply List.filter_congr
      intro p _
      exact (isLate_pos hlim s.now p.2.since).symm
    have fk2 : refs ((kp.map fun p => (p.1, p.2.2)).filter fun y => !decide (y.2 + r.limit ≤ s.now)) = ((kp.filter fun p => !lateK r s.now p).map (·.1)).map V.ref := by
      unfold refs
      rw [List.filter_map, List.map_map, List.map_map]
      congr 1
      apply List.filter_congr
      intro p _
      show (!decide (p.2.2 + r.limit ≤ s.now)) = _
      unfold lateK
      rw [isLate_pos hlim]
    have fw2 : refs ((wp.map fun p => (p.1, p.2.since)).filter fun y => !decide (y.2 + r.limit ≤ s.now)) = ((wp.filter fun p => !lateQ r s.now p).map (·.1)).map V.ref := by
      unfold refs
      rw [List.filter_map, List.map_map, List.map_map]
      congr 1
      apply List.filter_congr
      intro p _
      show (!decide (p.2.since + r.limit ≤ s.now)) = _
      unfold lateQ
      rw [isLate_pos hlim]
    have sk : ∀ {H' : Hp}, (∀ p ∈ kp, ∀ u, H p.1 = some u → H' p.1 = some u) → ReqSince t.CRequest H' (kp.map fun p => (p.1, p.2.2)) := fun f y hy => by
      obtain ⟨p, hp', rfl⟩ := List.mem_map.mp hy
      obtain ⟨d1, c1, a1, h1⟩ := (ek3 p hp').ob
      exact ⟨d1, p.2.1, c1, a1, f p hp' _ h1⟩
    have sw : ∀ {H' : Hp}, (∀ p ∈ wp, ∀ u, H p.1 = some u → H' p.1 = some u) → ReqSince t.CRequest H' (wp.map fun p => (p.1, p.2.since)) := fun f y hy => by
      obtain ⟨p, hp', rfl⟩ := List.mem_map.mp hy
      obtain ⟨d1, a1, h1, _⟩ := (ew3 p hp').ob
      exact ⟨d1, p.2.id, p.2.cost, a1, f p hp' _ h1⟩
    have ezk : (kp.map fun p => (p.1, p.2.2)).length < sizeLine := by rw [List.length_map, lkp]; show _ < 16777216; omega
    have ezw : (wp.map fun p => (p.1, p.2.since)).length < sizeLine := by rw [List.length_map, lwp]; show _ < 16777216; omega
    have elw : lateW r s.now x = (((kp.filter (lateK r s.now)).map (·.2)).flatMap fun w => [Want.cancel x.number w.1, .tell x.number w.1 4]) ++ ((wp.filter (lateQ r s.now)).map (·.2)).map fun q => Want.tell x.number q.id 4 := by
      rw [lateW_def]
      congr 2
      · rw [ek2]; exact filter_map_snd (fun w : Nat × Nat => isLate r s.now w.2) kp
      · rw [ew2]; exact filter_map_snd (fun q : Req => isLate r s.now q.since) wp
    generalize eKL : kp.filter (lateK r s.now) = KL at fk elw
    generalize eWL : wp.filter (lateQ r s.now) = WL at fw elw
    have memK : ∀ p ∈ KL, p ∈ kp := fun p hp' => by rw [← eKL] at hp'; exact (List.mem_filter.mp hp').1
    have memW : ∀ p ∈ WL, p ∈ wp := fun p hp' => by rw [← eWL] at hp'; exact (List.mem_filter.mp hp').1
    have lenW : (lateW r s.now x).length = 2 * KL.length + WL.length := by
      rw [elw, List.length_append, List.length_map, List.length_map, List.length_flatMap]
      have : ((KL.map (·.2)).map fun w => [Want.cancel x.number w.1, .tell x.number w.1 4].length) = KL.map fun _ => 2 := by rw [List.map_map]; rfl
      rw [this]
      have : ∀ l : List (Addr × (Nat × Nat)), (l.map fun _ => 2).sum = 2 * l.length := by
        intro l
        induction l with
        | nil => rfl
        | cons a r ih => rw [List.map_cons, List.sum_cons, ih, List.length_cons]; omega
      rw [this]
    rw [lenW] at hW
    refine ⟨_, rfl, A.p, _, dx, _, _, rfl, hp, T.clServer, T.nServer_inside, rfl, _, rfl, A.d, _, rfl, R.dget e, ?_⟩
    refine ⟨_, rfl, A.p, _, dx, _, _, rfl, hp, T.clServer, T.nServer_rules, rfl, A.u, _, dz, _, _, rfl, hu, T.clRules, T.nRules_limit, rfl, ?_⟩
    refine ⟨_, rfl, g.a, _, dy, _, _, rfl, hga, T.clGuest, T.nGuest_working, rfl, _, rfl, A.p, _, dx, _, _, rfl, hp, T.clServer, T.nServer_now, rfl, _, rfl, g.ka, s.now, r.limit, _, rfl, hkl, sk (fun _ _ _ h => h), ezk, fun D1 hD1 => ?_⟩
    rw [fk]
    have g1 : Grow H (upd H D1 (.lst (KL.map fun p => V.ref p.1))) := Grow.new hD1
    refine ⟨_, rfl, g.a, _, dy, _, _, rfl, g1 _ _ hga, T.clGuest, T.nGuest_waiting, rfl, _, rfl, A.p, _, dx, _, _, rfl, g1 _ _ hp, T.clServer, T.nServer_now, rfl, _, rfl, g.wa, s.now, r.limit, _, rfl, g1 _ _ hwl, sw (fun p _ u h => g1 _ _ h), ezw, fun D2 hD2 => ?_⟩
    rw [fw]
    have hD20 : H D2 = none := g1.none hD2
    have n12 : D1 ≠ D2 := ne_of_none upd_same hD2
    have g2 : Grow H (upd (upd H D1 (.lst (KL.map fun p => V.ref p.1))) D2 (.lst (WL.map fun p => V.ref p.1))) := g1.trans (Grow.new hD2)
    have h1 : (upd (upd H D1 (.lst (KL.map fun p => V.ref p.1))) D2 (.lst (WL.map fun p => V.ref p.1))) D1 = some (.lst (KL.map fun p => V.ref p.1)) := by rw [upd_ne n12]; exact upd_same
    have h2 : (upd (upd H D1 (.lst (KL.map fun p => V.ref p.1))) D2 (.lst (WL.map fun p => V.ref p.1))) D2 = some (.lst (WL.map fun p => V.ref p.1)) := upd_same
    generalize (upd (upd H D1 (.lst (KL.map fun p => V.ref p.1))) D2 (.lst (WL.map fun p => V.ref p.1))) = H2 at g2 h1 h2
    have R2 := R.grow g2
    have o1 : o D1 = .out := R.free hD1
    have o2 : o D2 = .out := R.free hD20
    refine ⟨_, rfl, D1, rfl, ⟨_, SqL.of h1⟩, for_list (K := K) (a := D1) (xs := KL.map fun p => V.ref p.1) (fun i σ H3 => ∃ (v : Option V) (o3 : Own) (ws3 : List Addr), σ = [some (.ref A.p), some (nv x.number), some (.ref g.a), some (nv r.limit), some (.ref D1), some (.ref D2), v] ∧
      Rep (clOf t) o3 H3 { A with ws := ws3 } { s with refused := s.refused + i } (W ++ ((KL.take i).map (·.2)).flatMap fun w => [Want.cancel x.number w.1, .tell x.number w.1 4]) ∧ KeepW o H2 o3 H3) ⟨none, o, A.ws, rfl, by rw [List.take_zero]; show Rep _ _ _ _ _ (W ++ []); rw [List.append_nil]; exact R2, KeepW.refl _ _⟩
      (fun i σ H3 _ ⟨_, o3, ws3, _, _, kw⟩ => SqL.of (kw _ _ h1 (by rw [o1]; intro q; cases q) (by rw [o1]; intro q; cases q)).1) ?_ ?_⟩
    · rintro i a σ H3 hi ⟨v, o3, ws3, rfl, R3, kw⟩
      rw [List.getElem?_map] at hi
      obtain ⟨p, hpi, rfl⟩ := Option.map_eq_some_iff.mp hi
      have hil : i < KL.length := (List.getElem?_eq_some_iff.mp hpi).1
      have wk := ek3 p (memK p (List.mem_of_getElem? hpi))
      obtain ⟨d1, c1, a1, hq⟩ := wk.ob
      have hq3 := (kw _ _ (g2 _ _ hq) (by rw [wk.ro]; intro q; cases q) (by rw [wk.ro]; intro q; cases q)).1
      have lt1 : (((KL.take i).map (·.2)).flatMap fun w => [Want.cancel x.number w.1, .tell x.number w.1 4]).length = 2 * i := by
        rw [List.length_flatMap]
        have : (((KL.take i).map (·.2)).map fun w : Nat × Nat => [Want.cancel x.number w.1, .tell x.number w.1 4].length) = (KL.take i).map fun _ => 2 := by rw [List.map_map]; rfl
        rw [this]
        have : ∀ l : List (Addr × (Nat × Nat)), (l.map fun _ => 2).sum = 2 * l.length := by
          intro l
          induction l with
          | nil => rfl
          | cons a r ih => rw [List.map_cons, List.sum_cons, ih, List.length_cons]; omega
        rw [this, List.length_take]
        omega
      refine ⟨_, rfl, _, rfl, _, rfl, p.1, _, d1, _, _, rfl, hq3, T.clRequest, T.nRequest_number, rfl, o3, { A with ws := ws3 }, _, _, x.number, p.2.1, rfl, R3, (by rw [List.length_append, lt1]; omega), fun y4 o4 H4 R4 kw4 => ?_⟩
      have hq4 := (kw4 _ _ hq3 (by rw [(kw _ _ (g2 _ _ hq) (by rw [wk.ro]; intro q; cases q) (by rw [wk.ro]; intro q; cases q)).2, wk.ro]; intro q; cases q) (by rw [(kw _ _ (g2 _ _ hq) (by rw [wk.ro]; intro q; cases q) (by rw [wk.ro]; intro q; cases q)).2, wk.ro]; intro q; cases q)).1
      refine ⟨_, rfl, _, rfl, _, rfl, p.1, _, d1, _, _, rfl, hq4, T.clRequest, T.nRequest_number, rfl, o4, { A with ws := ws3 ++ [y4] }, _, _, x.number, p.2.1, 4, rfl, R4, (by rw [List.length_append, List.length_append, lt1]; show _ + 1 < _; omega), fun y5 o5 H5 R5 kw5 => ?_⟩
      refine ⟨some (V.ref p.1), o5, ws3 ++ [y4] ++ [y5], rfl, ?_, (kw.trans kw4).trans kw5⟩
      rw [take_succ_of hpi, List.map_append, List.flatMap_append, ← List.append_assoc]
      rw [List.append_assoc _ [Want.cancel x.number p.2.1] [Want.tell x.number p.2.1 4]] at R5
      exact R5
    · rintro σ H3 ⟨v, o3, ws3, rfl, R3, kw3⟩
      rw [List.length_map, List.take_length] at R3
      obtain ⟨h23, o23⟩ := kw3 _ _ h2 (by rw [o2]; intro q; cases q) (by rw [o2]; intro q; cases q)
      have lt1 : ((KL.map (·.2)).flatMap fun w => [Want.cancel x.number w.1, .tell x.number w.1 4]).length = 2 * KL.length := by
        rw [elw, List.length_append, List.length_map, List.length_map] at lenW
        omega
      generalize hW1 : ((KL.map (·.2)).flatMap fun w => [Want.cancel x.number w.1, .tell x.number w.1 4]) = W1 at R3 lt1 elw
      refine ⟨_, rfl, D2, rfl, ⟨_, SqL.of h23⟩, for_list (K := K) (a := D2) (xs := WL.map fun p => V.ref p.1) (fun i σ H4 => ∃ (v : Option V) (o4 : Own) (ws4 : List Addr), σ = [some (.ref A.p), some (nv x.number), some (.ref g.a), some (nv r.limit), some (.ref D1), some (.ref D2), v] ∧
        Rep (clOf t) o4 H4 { A with ws := ws4 } { s with refused := s.refused + KL.length + i } (W ++ W1 ++ ((WL.take i).map (·.2)).map fun q => Want.tell x.number q.id 4) ∧ KeepW o H2 o4 H4) ⟨v, o3, ws3, rfl, by rw [List.take_zero]; show Rep _ _ _ _ _ (W ++ W1 ++ []); rw [List.append_nil]; exact R3, kw3⟩
        (fun i σ H4 _ ⟨_, o4, ws4, _, _, kw⟩ => SqL.of (kw _ _ h2 (by rw [o2]; intro q; cases q) (by rw [o2]; intro q; cases q)).1) ?_ ?_⟩
      · rintro i a σ H4 hi ⟨v, o4, ws4, rfl, R4, kw⟩
        rw [List.getElem?_map] at hi
        obtain ⟨p, hpi, rfl⟩ := Option.map_eq_some_iff.mp hi
        have hil : i < WL.length := (List.getElem?_eq_some_iff.mp hpi).1
        have wk := ew3 p (memW p (List.mem_of_getElem? hpi))
        obtain ⟨d1, a1, hq, _⟩ := wk.ob
        have hq4 := (kw _ _ (g2 _ _ hq) (by rw [wk.ro]; intro q; cases q) (by rw [wk.ro]; intro q; cases q)).1
        refine ⟨_, rfl, _, rfl, _, rfl, p.1, _, d1, _, _, rfl, hq4, T.clRequest, T.nRequest_number, rfl, o4, { A with ws := ws4 }, _, _, x.number, p.2.id, 4, rfl, R4, ?_, fun y5 o5 H5 R5 kw5 => ?_⟩
        · rw [List.length_append, List.length_append, lt1, List.length_map, List.length_map, List.length_take]
          omega
        · refine ⟨some (V.ref p.1), o5, ws4 ++ [y5], rfl, ?_, kw.trans kw5⟩
          rw [take_succ_of hpi, List.map_append, List.map_append, ← List.append_assoc]
          exact R5
      · rintro σ H4 ⟨v4, o4, ws4, rfl, R4, kw4⟩
        rw [List.length_map, List.take_length, List.append_assoc, ← elw] at R4
        have st4 : ∀ {b : Addr} {u : HO} {r1 : Role}, H b = some u → o b = r1 → r1 ≠ .srv → r1 ≠ .wants → H4 b = some u ∧ o4 b = r1 := fun hb e n1 n2 => by
          obtain ⟨a1, a2⟩ := kw4 _ _ (g2 _ _ hb) (by rw [e]; exact n1) (by rw [e]; exact n2)
          exact ⟨a1, a2.trans e⟩
        obtain ⟨h14, _⟩ := kw4 _ _ h1 (by rw [o1]; intro q; cases q) (by rw [o1]; intro q; cases q)
        obtain ⟨h24, _⟩ := kw4 _ _ h2 (by rw [o2]; intro q; cases q) (by rw [o2]; intro q; cases q)
        obtain ⟨hga4, oga4⟩ := st4 hga z.oa (by intro q; cases q) (by intro q; cases q)
        obtain ⟨hkl4, okl4⟩ := st4 hkl z.ok (by intro q; cases q) (by intro q; cases q)
        obtain ⟨hwl4, owl4⟩ := st4 hwl z.ow (by intro q; cases q) (by intro q; cases q)
        obtain ⟨dx4, ge4, hp4, hge4⟩ := R4.sv
        refine ⟨_, rfl, D1, _, rfl, .inl (SqL.of h14), _, rfl, D2, _, rfl, .inl (SqL.of h24), _, _, rfl, rfl, _, _, rfl, rfl, _, rfl, ?_⟩
        rw [List.length_map, List.length_map]
        have nkg : g.ka ≠ g.a := ne_role z.ok z.oa (by intro q; cases q)
        have nwg : g.wa ≠ g.a := ne_role z.ow z.oa (by intro q; cases q)
        have npg : A.p ≠ g.a := ne_role R.os z.oa (by intro q; cases q)
        have eh : (late r s.now x).heard = if 0 < KL.length + WL.length then s.now else x.heard := by
          rw [late_def]
          show (if (x.working.any fun w => isLate r s.now w.2) || (x.waiting.any fun q => isLate r s.now q.since) then s.now else x.heard) = _
          have e1 : (x.working.any fun w => isLate r s.now w.2) = decide (0 < KL.length) := by
            rw [ek2, List.any_map, ← eKL, Bool.eq_iff_iff, List.any_eq_true, decide_eq_true_iff, List.length_pos_iff_exists_mem]
            constructor
            · rintro ⟨p, h1, h2⟩; exact ⟨p, List.mem_filter.mpr ⟨h1, h2⟩⟩
            · rintro ⟨p, h1⟩; exact ⟨p, (List.mem_filter.mp h1).1, (List.mem_filter.mp h1).2⟩
          have e2 : (x.waiting.any fun q => isLate r s.now q.since) = decide (0 < WL.length) := by
            rw [ew2, List.any_map, ← eWL, Bool.eq_iff_iff, List.any_eq_true, decide_eq_true_iff, List.length_pos_iff_exists_mem]
            constructor
            · rintro ⟨p, h1, h2⟩; exact ⟨p, List.mem_filter.mpr ⟨h1, h2⟩⟩
            · rintro ⟨p, h1⟩; exact ⟨p, (List.mem_filter.mp h1).1, (List.mem_filter.mp h1).2⟩
          rw [e1, e2]
          by_cases q1 : 0 < KL.length
          · rw [decide_eq_true q1, Bool.true_or, if_pos rfl, if_pos (by omega)]
          · by_cases q2 : 0 < WL.length
            · rw [decide_eq_true q2, Bool.or_true, if_pos rfl, if_pos (by omega)]
            · rw [decide_eq_false q1, decide_eq_false q2, if_neg (by simp), if_neg (by omega)]
        apply ite_join (fun H5 => H5 g.a = some (.ins t.CGuest dy (gf x.from_ x.weight x.credit g.wa g.ka (late r s.now x).heard ch lo)) ∧ ∀ b, b ≠ g.a → H5 b = H4 b)
        case hb =>
          intro q fin
          refine fin H4 ⟨?_, fun _ _ => rfl⟩
          rw [eh, if_neg (fun y => q (decide_eq_true (by omega)))]
          exact hga4
        case ha =>
          intro q fin
          have q1 := of_decide_eq_true q
          refine ⟨_, rfl, A.p, _, dx4, _, _, rfl, hp4, T.clServer, T.nServer_now, rfl, _, rfl, g.a, _, dy, _, rfl, hga4, T.clGuest, T.nGuest_heard_at, (by show 8 < 1000; decide), ?_⟩
          refine fin _ ⟨?_, fun b hb => upd_ne hb⟩
          rw [eh, if_pos (by omega)]
          exact upd_same
        case h =>
          rintro H5 ⟨hga5, old5⟩
          have gr5 : ∀ {b : Addr} {u : HO}, H4 b = some u → b ≠ g.a → H5 b = some u := fun hb n => by rw [old5 _ n]; exact hb
          have hp5 := gr5 hp4 npg
          have rq : ∀ {b : Addr} {i : Nat} {u : HO}, H b = some u → o b = .req x.number i → H5 b = some u := fun hb e => gr5 (st4 hb e (by intro q; cases q) (by intro q; cases q)).1 (ne_role e z.oa (by intro q; cases q))
          refine ⟨_, rfl, g.a, _, dy, _, _, rfl, hga5, T.clGuest, T.nGuest_working, rfl, _, rfl, A.p, _, dx4, _, _, rfl, hp5, T.clServer, T.nServer_now, rfl, _, rfl, g.ka, s.now, r.limit, _, rfl, gr5 hkl4 nkg, sk (fun p hp' u h => rq h (ek3 p hp').ro), ezk, fun D3 hD3 => ?_⟩
          rw [fk2]
          have n3g : g.a ≠ D3 := ne_of_none hga5 hD3
          have hD34 : H4 D3 = none := by rw [← old5 D3 n3g.symm]; exact hD3
          refine ⟨_, rfl, g.a, _, dy, _, rfl, (by rw [upd_ne n3g]; exact hga5), T.clGuest, T.nGuest_working, (by show 8 < 1000; decide), ?_⟩
          have n3w : g.wa ≠ D3 := ne_of_none hwl4 hD34
          have n3p : A.p ≠ D3 := ne_of_none hp4 hD34
          have gr7 : ∀ {b : Addr} {u u2 : HO}, H4 b = some u → b ≠ g.a → (upd (upd H5 D3 (.lst (((kp.filter fun p => !lateK r s.now p).map (·.1)).map V.ref))) g.a u2) b = some u := fun {b u u2} hb n => by rw [upd_ne n, upd_ne (ne_of_none hb hD34)]; exact gr5 hb n
          refine ⟨_, rfl, g.a, _, dy, _, _, rfl, upd_same, T.clGuest, T.nGuest_waiting, rfl, _, rfl, A.p, _, dx4, _, _, rfl, gr7 hp4 npg, T.clServer, T.nServer_now, rfl, _, rfl, g.wa, s.now, r.limit, _, rfl, gr7 hwl4 nwg, sw (fun p hp' u h => gr7 (st4 h (ew3 p hp').ro (by intro q; cases q) (by intro q; cases q)).1 (ne_role (ew3 p hp').ro z.oa (by intro q; cases q))), ezw, fun D4 hD4 => ?_⟩
          rw [fw2]
          have n4g : g.a ≠ D4 := ne_of_none upd_same hD4
          have hD45 := hD4
          rw [upd_ne n4g.symm] at hD45
          have n43 : D3 ≠ D4 := ne_of_none upd_same hD45
          rw [upd_ne n43.symm, old5 D4 n4g.symm] at hD45
          refine ⟨_, rfl, g.a, _, dy, _, rfl, (by rw [upd_ne n4g]; exact upd_same), T.clGuest, T.nGuest_waiting, (by show 8 < 1000; decide), ?_⟩
          have z4 : GuestAt (clOf t) o4 H4 s.rules s.now g x := z.keep (Nat.le_refl _) fun b u hb q => by
            have n1 : o b ≠ .srv := by intro y; rw [y] at q; rcases q with q | q <;> cases q
            have n2 : o b ≠ .wants := by intro y; rw [y] at q; rcases q with q | q <;> cases q
            exact kw4 b u (g2 b u hb) n1 n2
          have et : ((lateW r s.now x).filter isTell).length = KL.length + WL.length := by
            rw [elw, ← hW1, tells_two, List.length_map, List.length_map]
          obtain ⟨H9, e9⟩ : ∃ H9, H9 = upd (upd (upd (upd H5 D3 (.lst (((kp.filter fun p => !lateK r s.now p).map (·.1)).map V.ref))) g.a (.ins t.CGuest dy (gf x.from_ x.weight x.credit g.wa D3 (late r s.now x).heard ch lo))) D4 (.lst (((wp.filter fun p => !lateQ r s.now p).map (·.1)).map V.ref))) g.a (.ins t.CGuest dy (gf x.from_ x.weight x.credit D4 D3 (late r s.now x).heard ch lo)) := ⟨_, rfl⟩
          have old9 : ∀ {b : Addr} {u : HO}, H4 b = some u → b ≠ g.a → H9 b = some u := fun hb n => by rw [e9, upd_ne n, upd_ne (ne_of_none hb hD45), upd_ne n, upd_ne (ne_of_none hb hD34)]; exact gr5 hb n
          have h93 : H9 D3 = some (.lst (((kp.filter fun p => !lateK r s.now p).map (·.1)).map V.ref)) := by rw [e9, upd_ne n3g.symm, upd_ne n43, upd_ne n3g.symm]; exact upd_same
          have h94 : H9 D4 = some (.lst (((wp.filter fun p => !lateQ r s.now p).map (·.1)).map V.ref)) := by rw [e9, upd_ne n4g.symm]; exact upd_same
          have h9g : H9 g.a = some (.ins t.CGuest dy (gf x.from_ x.weight x.credit D4 D3 (late r s.now x).heard ch lo)) := by rw [e9]; exact upd_same
          have oo : ∀ {b : Addr} {u : HO}, H4 b = some u → setR (setR o4 D3 (.work x.number)) D4 (.wait x.number) b = o4 b := fun hb => by rw [setR_ne (ne_of_none hb hD45), setR_ne (ne_of_none hb hD34)]
          have dom9 : ∀ b, H4 b ≠ none → H9 b ≠ none := fun b hb => by
            by_cases e1 : b = g.a
            · rw [e1, h9g]; intro q; cases q
            · cases e2 : H4 b with
              | none => exact absurd e2 hb
              | some u => rw [old9 e2 e1]; intro q; cases q
          let g' : GA := { g with wa := D4, ka := D3, wq := (wp.filter fun p => !lateQ r s.now p).map (·.1), kq := (kp.filter fun p => !lateK r s.now p).map (·.1) }
          have z9 : GuestAt (clOf t) (setR (setR o4 D3 (.work x.number)) D4 (.wait x.number)) H9 s.rules s.now g' (late r s.now x) := by
            have ewl : (late r s.now x).waiting = (wp.filter fun p => !lateQ r s.now p).map (·.2) := by
              rw [late_def, ew2]
              exact filter_map_snd (fun q : Req => !isLate r s.now q.since) wp
            have ekl : (late r s.now x).working = (kp.filter fun p => !lateK r s.now p).map (·.2) := by
              rw [late_def, ek2]
              exact filter_map_snd (fun w : Nat × Nat => !isLate r s.now w.2) kp
            refine ⟨z.nm, ⟨dy, ch, lo, h9g, hlv⟩, (oo hga4).trans oga4, h94, setR_same, h93, by rw [setR_ne n43]; exact setR_same, ?_, ?_⟩
            · rw [ewl]
              refine zip_paired fun p hp' => ?_
              have wa := ew3 p (List.mem_filter.mp hp').1
              refine wa.keepR fun b u hb q => ?_
              rcases q with q | q
              · obtain ⟨a1, a2⟩ := st4 hb q (by intro q; cases q) (by intro q; cases q)
                exact ⟨old9 a1 (ne_role q z.oa (by intro q; cases q)), ((oo a1).trans a2).trans q.symm⟩
              · obtain ⟨a1, a2⟩ := st4 hb q (by intro q; cases q) (by intro q; cases q)
                exact ⟨old9 a1 (ne_role q z.oa (by intro q; cases q)), ((oo a1).trans a2).trans q.symm⟩
            · rw [ekl]
              refine zip_paired fun p hp' => ?_
              have wa := ek3 p (List.mem_filter.mp hp').1
              refine wa.keepR fun b u hb q => ?_
              obtain ⟨a1, a2⟩ := st4 hb q (by intro q; cases q) (by intro q; cases q)
              exact ⟨old9 a1 (ne_role q z.oa (by intro q; cases q)), ((oo a1).trans a2).trans q.symm⟩
          have R9 := R4.guest srt (H' := H9) (o' := setR (setR o4 D3 (.work x.number)) D4 (.wait x.number)) hg hx z4 (g' := g') (x' := late r s.now x) rfl rfl
            (fun b u hb no nk => ⟨old9 hb (fun y => nk (by rw [y, oga4]; rfl)), oo hb⟩) (fun b n => ?_) z9
          · have es : ({ s with refused := s.refused + KL.length + WL.length } : Server).with_ (late r s.now x) = lateS r s x := by
              unfold lateS
              rw [et, Nat.add_assoc]
            rw [es] at R9
            have ex9 : Ext o H (setR (setR o4 D3 (.work x.number)) D4 (.wait x.number)) H9 := fun b u hb q => by
              have n1 : o b ≠ .srv := by intro y; rw [y] at q; rcases q with q | q <;> cases q
              have n2 : o b ≠ .wants := by intro y; rw [y] at q; rcases q with q | q <;> cases q
              obtain ⟨a1, a2⟩ := st4 hb rfl n1 n2
              exact ⟨old9 a1 (fun y => by rw [y, z.oa] at q; rcases q with q | q <;> cases q), (oo a1).trans a2⟩
            subst e9
            exact k.use R9 rfl ex9
          · by_cases e1 : b = D4
            · rw [e1, h94]; intro q; cases q
            · rw [setR_ne e1] at n
              by_cases e2 : b = D3
              · rw [e2, h93]; intro q; cases q
              · rw [setR_ne e2] at n
                exact dom9 b (R4.dom b n)
end
end Fd
end
section
namespace Fd
open PySem L2 Sw55
theorem repl_mid {d x : Conn} (en : d.number = x.number) : ∀ {pre post : List Conn}, Srt (pre ++ x :: post) → repl d (pre ++ x :: post) = pre ++ d :: post
  | [], post, h => by
    obtain ⟨h1, _⟩ := List.pairwise_cons.mp h
    show (if x.number = d.number then d else x) :: repl d post = d :: post
    rw [if_pos en.symm]
    congr 1
    conv => rhs; rw [← List.map_id post]
    apply List.map_congr_left
    intro y hy
    rw [if_neg (fun e => by have := h1 y hy; omega)]
    rfl
  | y :: pre, post, h => by
    obtain ⟨h1, h2⟩ := List.pairwise_cons.mp h
    have := h1 x (List.mem_append_right _ List.mem_cons_self)
    show (if y.number = d.number then d else y) :: repl d (pre ++ x :: post) = y :: (pre ++ d :: post)
    rw [if_neg (by omega), repl_mid en h2]
def lateTo (r : Rules) (s : Server) (i : Nat) : Server := { s with conns := (s.conns.take i).map (late r s.now) ++ s.conns.drop i, refused := s.refused + ((s.conns.take i).map fun c => ((lateW r s.now c).filter isTell).length).sum }
theorem lateTo_zero (r : Rules) (s : Server) : lateTo r s 0 = s := by
  unfold lateTo
  rw [List.take_zero, List.drop_zero]
  rfl
theorem lateTo_srt {r : Rules} {s : Server} (h : Srt s.conns) (i : Nat) : Srt (lateTo r s i).conns := by
  rw [srt_numbers] at h ⊢
  show (((s.conns.take i).map (late r s.now) ++ s.conns.drop i).map (·.number)).Pairwise _
  rw [List.map_append, List.map_map]
  have : ((fun c : Conn => c.number) ∘ late r s.now) = fun c => c.number := rfl
  rw [this, ← List.map_append, List.take_append_drop]
  exact h
theorem lateTo_succ {r : Rules} {s : Server} (h : Srt s.conns) {i : Nat} {x : Conn} (hx : s.conns[i]? = some x) : lateS r (lateTo r s i) x = lateTo r s (i + 1) ∧ x ∈ (lateTo r s i).conns := by
  have hlt : i < s.conns.length := (List.getElem?_eq_some_iff.mp hx).1
  have hd : s.conns.drop i = x :: s.conns.drop (i + 1) := by
    rw [List.drop_eq_getElem_cons hlt, (List.getElem?_eq_some_iff.mp hx).2]
  have srt := lateTo_srt (r := r) h i
  have ec : (lateTo r s i).conns = (s.conns.take i).map (late r s.now) ++ x :: s.conns.drop (i + 1) := by show _ ++ _ = _; rw [hd]
  rw [ec] at srt ⊢
  refine ⟨?_, List.mem_append_right _ List.mem_cons_self⟩
  have ts := take_succ_of hx
  have e1 : repl (late r s.now x) (lateTo r s i).conns = (s.conns.take (i + 1)).map (late r s.now) ++ s.conns.drop (i + 1) := by
    rw [ec, repl_mid (d := late r s.now x) (x := x) rfl srt, ts, List.map_append, List.append_assoc]
    rfl
  have e2 : (lateTo r s i).refused + ((lateW r s.now x).filter isTell).length = s.refused + ((s.conns.take (i + 1)).map fun c => ((lateW r s.now c).filter isTell).length).sum := by
    show s.refused + _ + _ = s.refused + _
    rw [ts, List.map_append, List.sum_append, Nat.add_assoc]
    rfl
  show (⟨s.rules, repl (late r s.now x) (lateTo r s i).conns, s.row, s.now, s.ends, s.asked, s.answered, (lateTo r s i).refused + ((lateW r s.now x).filter isTell).length⟩ : Server) = ⟨s.rules, (s.conns.take (i + 1)).map (late r s.now) ++ s.conns.drop (i + 1), s.row, s.now, s.ends, s.asked, s.answered, s.refused + ((s.conns.take (i + 1)).map fun c => ((lateW r s.now c).filter isTell).length).sum⟩
  rw [e1, e2]
theorem lateTo_all (r : Rules) (s : Server) : (lateTo r s s.conns.length) = (lateAll r s).1 := by
  rw [lateAll_def]
  unfold lateTo
  rw [List.take_length, List.drop_length, List.append_nil]
section
variable {P : Program} {w : World} {K : PySem.W.Frag} {mg : Str → Option Value} {base : Heap} {t : Adr}
def sp_drop_late (t : Adr) : Sp := fun vs H Q _ => ∃ (o : Own) (A : SA) (s : Server) (W : List Want) (r : Rules), vs = [.ref A.p] ∧ Rep (clOf t) o H A s W ∧ Ok0 s ∧ s.rules = some r ∧ s.asked < 100000 ∧ W.length + (lateAll r s).2.length < sizeLine ∧ Leaves t o H A (lateAll r s).1 (W ++ (lateAll r s).2) (Q .non)
theorem ok_drop_late (T : Txt K mg t) : FnOk P w K mg base CX0 3 t.fdrop_late t.ddrop_late ["server"] (sp_drop_late t) := by
  have G_drop_late_of : FnOk P w K mg base CX0 2 t.fdrop_late_of t.ddrop_late_of ["server", "who"] (sp_drop_late_of t) := ok_drop_late_of T
  refine T.Fdrop_late.ok sc_drop_late (fun vs H Q E h => ?_) (fun cdv A outer s H vs Q E hr h => ?_)
  · obtain ⟨o, A, s, W, r, rfl, _⟩ := h; rfl
  · obtain ⟨o, A, s, W, r, rfl, R, ok, er, has, hW, k⟩ := h
    refine ⟨_, (pss_cons (ps_if (pt_cmpR op_eq (pe_fld (pe_fld (pv 0) rfl) rfl) pe_int (nomark _)) (pss_one ps_retN) pss_nil)
      (pss_one (ps_for PassesOwn.never rfl (pi_list (pe_callB (cr_sortedD rfl) (by rfl) T.sorted PyProof.Rows.boot_sorted (pa_cons (pe_fld (pv 0) rfl) pa_nil))) (pg_name (i := 1) sc_drop_late.nd rfl (Or.inl rfl)) (pss_one (ps_expr (pe_call G_drop_late_of hr rfl T.mdrop_late_of T.Fdrop_late_of.kp T.bdrop_late_of .nil pass0 (pa_cons (pv 0) (pa_cons (pv 1) pa_nil)))))))), ?_⟩
    obtain ⟨dx, ge, dz, hp, hge, hu, ou⟩ := R.rules er
    refine ⟨_, rfl, A.p, _, dx, _, _, rfl, hp, T.clServer, T.nServer_rules, rfl, A.u, _, dz, _, _, rfl, hu, T.clRules, T.nRules_limit, rfl, rfl, _, rfl, ?_⟩
    refine ite2 (fun z => ?_) (fun z => ?_)
    · have z1 : r.limit = 0 := by have := V.int.inj (of_decide_eq_true z); omega
      rw [lateAll_zero z1] at k
      exact k o H A rfl (by rw [List.append_nil]; exact R) (Ext.refl _ _)
    · have z1 : 0 < r.limit := by
        rcases Nat.eq_zero_or_pos r.limit with y | y
        · exact absurd (decide_eq_true (by rw [y]; rfl)) z
        · exact y
      refine ⟨_, rfl, A.p, _, dx, _, _, rfl, hp, T.clServer, T.nServer_inside, rfl, A.d, _, _, rfl, .inl R.di, dict_keys A.gs, fun ns' p pm pw hpn => ?_⟩
      rw [R.sorted ok.srt pm pw]
      have g1 : Grow H (upd H p (.lst (s.conns.map fun c => nv c.number))) := Grow.new hpn
      have R1 := R.grow g1
      have op : o p = .out := R.free hpn
      have hp1 : (upd H p (.lst (s.conns.map fun c => nv c.number))) p = some (.lst (s.conns.map fun c => nv c.number)) := upd_same
      generalize (upd H p (.lst (s.conns.map fun c => nv c.number))) = H1 at g1 R1 hp1
      have eall : (lateAll r s).2 = s.conns.flatMap (lateW r s.now) := by rw [lateAll_def]
      rw [eall] at hW
      refine ⟨p, rfl, ⟨_, SqL.of hp1⟩, for_list (K := K) (a := p) (xs := s.conns.map fun c => nv c.number) (fun i σ H2 => ∃ (v : Option V) (o2 : Own) (A2 : SA), σ = [some (.ref A.p), v] ∧ A2.p = A.p ∧
        Rep (clOf t) o2 H2 A2 (lateTo r s i) (W ++ (s.conns.take i).flatMap (lateW r s.now)) ∧ Ext o H1 o2 H2) ⟨none, o, A, rfl, rfl, by rw [lateTo_zero, List.take_zero]; show Rep _ _ _ _ _ (W ++ []); rw [List.append_nil]; exact R1, Ext.refl _ _⟩
        (fun i σ H2 _ ⟨_, o2, A2, _, _, _, ex⟩ => SqL.of (ex _ _ hp1 (.inl op)).1) ?_ ?_⟩
      · rintro i a σ H2 hi ⟨v, o2, A2, rfl, ep, R2, ex⟩
        rw [List.getElem?_map] at hi
        obtain ⟨x, hx, rfl⟩ := Option.map_eq_some_iff.mp hi
        obtain ⟨e1, e2⟩ := lateTo_succ (r := r) ok.srt hx
        have ts := take_succ_of hx
        have hh := held_le ok (List.mem_of_getElem? hx)
        have e3 : (s.conns.take (i + 1)).flatMap (lateW r s.now) = (s.conns.take i).flatMap (lateW r s.now) ++ lateW r s.now x := by
          rw [ts, List.flatMap_append]
          congr 1
          simp only [List.flatMap_cons, List.flatMap_nil, List.append_nil]
        have lb : ((s.conns.take (i + 1)).flatMap (lateW r s.now)).length ≤ (s.conns.flatMap (lateW r s.now)).length := by
          have e4 : s.conns.flatMap (lateW r s.now) = (s.conns.take (i + 1)).flatMap (lateW r s.now) ++ (s.conns.drop (i + 1)).flatMap (lateW r s.now) := by rw [← List.flatMap_append, List.take_append_drop]
          rw [e4, List.length_append]
          omega
        rw [e3, List.length_append] at lb
        refine ⟨_, rfl, _, rfl, o2, A2, lateTo r s i, _, r, x, (by rw [ep]; rfl), R2, lateTo_srt ok.srt i, e2, er, z1, by omega, ?_, fun o3 H3 A3 ep3 R3 ex3 => ?_⟩
        · rw [List.length_append]
          show _ + (lateW r s.now x).length < _
          omega
        · refine ⟨some (nv x.number), o3, A3, rfl, ep3.trans ep, ?_, ex.trans ex3⟩
          rw [e1] at R3
          rw [e3, ← List.append_assoc]
          exact R3
      · rintro σ H2 ⟨v, o2, A2, rfl, ep, R2, ex⟩
        rw [List.length_map, List.take_length, lateTo_all, ← eall] at R2
        exact k o2 H2 A2 ep R2 (g1.ext.trans ex)
def sp_end_what_is_due (t : Adr) : Sp := fun vs H Q _ => ∃ (o : Own) (A : SA) (s : Server) (W : List Want) (r : Rules), vs = [.ref A.p] ∧ Rep (clOf t) o H A s W ∧ Ok0 s ∧ s.rules = some r ∧ s.asked < 100000 ∧ W.length + (endDue s).2.length < sizeLine ∧ Leaves t o H A (endDue s).1 (W ++ (endDue s).2) (Q .non)
theorem ok_end_what_is_due (T : Txt K mg t) : FnOk P w K mg base CX0 4 t.fend_what_is_due t.dend_what_is_due ["server"] (sp_end_what_is_due t) := by
  have G_close_quiet_if_ending : FnOk P w K mg base CX0 3 t.fclose_quiet_if_ending t.dclose_quiet_if_ending ["server"] (sp_close_quiet_if_ending t) := ok_close_quiet_if_ending T
  have G_close_all_if_grace_over : FnOk P w K mg base CX0 3 t.fclose_all_if_grace_over t.dclose_all_if_grace_over ["server"] (sp_close_all_if_grace_over t) := ok_close_all_if_grace_over T
  have G_tidy_row : FnOk P w K mg base CX0 3 t.ftidy_row t.dtidy_row ["server"] (sp_tidy_row t) := (ok_tidy_row T).mono (by decide)
  have G_take_turns : FnOk P w K mg base CX0 3 t.ftake_turns t.dtake_turns ["server"] (sp_take_turns t) := ok_take_turns T
  refine T.Fend_what_is_due.ok sc_end_what_is_due (fun vs H Q E h => ?_) (fun cdv A outer s H vs Q E hr h => ?_)
  · obtain ⟨o, A, s, W, r, rfl, _⟩ := h; rfl
  · obtain ⟨o, A, s, W, r, rfl, R, ok, er, has, hW, k⟩ := h
    refine ⟨_, (pss_cons (ps_expr (pe_call G_close_quiet_if_ending hr rfl T.mclose_quiet_if_ending T.Fclose_quiet_if_ending.kp T.bclose_quiet_if_ending .nil pass0 (pa_cons (pv 0) pa_nil)))
      (pss_cons (ps_expr (pe_call G_close_all_if_grace_over hr rfl T.mclose_all_if_grace_over T.Fclose_all_if_grace_over.kp T.bclose_all_if_grace_over .nil pass0 (pa_cons (pv 0) pa_nil)))
      (pss_cons (ps_expr (pe_call G_tidy_row hr rfl T.mtidy_row T.Ftidy_row.kp T.btidy_row .nil pass0 (pa_cons (pv 0) pa_nil)))
      (pss_one (ps_expr (pe_call G_take_turns hr rfl T.mtake_turns T.Ftake_turns.kp T.btake_turns .nil pass0 (pa_cons (pv 0) pa_nil))))))), ?_⟩
    obtain ⟨q1, q2, q3⟩ := quiet_ok ok
    obtain ⟨h1, h2, h3⟩ := grace_ok q1 q3
    unfold endDue at hW k
    rw [then_fst, then_fst] at k
    rw [then_snd, then_snd] at hW k
    simp only [List.length_append] at hW
    refine ⟨_, rfl, o, A, s, W, rfl, R, ok, by omega, fun o2 H2 A2 ep2 R2 ex2 => ?_⟩
    refine ⟨_, rfl, o2, A2, _, _, (by rw [ep2]; rfl), R2, q1, by rw [List.length_append]; omega, fun o3 H3 A3 ep3 R3 ex3 => ?_⟩
    refine ⟨_, rfl, o3, A3, _, _, (by rw [ep3, ep2]; rfl), R3, h1, fun o4 H4 A4 ep4 R4 ex4 => ?_⟩
    have er4 : (tidy (graceOut (quietOut s).1).1).rules = some r := by show (graceOut (quietOut s).1).1.rules = some r; rw [h2.rules, q2.rules, er]
    have ea4 : (tidy (graceOut (quietOut s).1).1).asked < 100000 := by show (graceOut (quietOut s).1).1.asked < 100000; rw [h2.asked, q2.asked]; exact has
    refine ⟨_, rfl, o4, A4, _, _, r, (by rw [ep4, ep3, ep2]; rfl), R4, h1.tidy, er4, ea4, ?_, fun o5 H5 A5 ep5 R5 ex5 => ?_⟩
    · simp only [List.length_append]
      show _ + (after (graceOut (quietOut s).1).1).2.length < _
      omega
    · refine k o5 H5 A5 (by rw [ep5, ep4, ep3, ep2]) ?_ (((ex2.trans ex3).trans ex4).trans ex5)
      rw [List.append_assoc, List.append_assoc] at R5
      exact R5
def sp_settle (t : Adr) : Sp := fun vs H Q _ => ∃ (o : Own) (A : SA) (s : Server) (W : List Want) (r : Rules), vs = [.ref A.p] ∧ Rep (clOf t) o H A s W ∧ Ok0 s ∧ s.rules = some r ∧ s.asked < 100000 ∧ W.length + (settle s).2.length < sizeLine ∧ Leaves t o H A (settle s).1 (W ++ (settle s).2) (Q .non)
theorem ok_settle (T : Txt K mg t) : FnOk P w K mg base CX0 4 t.fsettle t.dsettle ["server"] (sp_settle t) := by
  have G_close_quiet_if_ending : FnOk P w K mg base CX0 3 t.fclose_quiet_if_ending t.dclose_quiet_if_ending ["server"] (sp_close_quiet_if_ending t) := ok_close_quiet_if_ending T
  have G_tidy_row : FnOk P w K mg base CX0 3 t.ftidy_row t.dtidy_row ["server"] (sp_tidy_row t) := (ok_tidy_row T).mono (by decide)
  have G_take_turns : FnOk P w K mg base CX0 3 t.ftake_turns t.dtake_turns ["server"] (sp_take_turns t) := ok_take_turns T
  refine T.Fsettle.ok sc_settle (fun vs H Q E h => ?_) (fun cdv A outer s H vs Q E hr h => ?_)
  · obtain ⟨o, A, s, W, r, rfl, _⟩ := h; rfl
  · obtain ⟨o, A, s, W, r, rfl, R, ok, er, has, hW, k⟩ := h
    refine ⟨_, (pss_cons (ps_expr (pe_call G_close_quiet_if_ending hr rfl T.mclose_quiet_if_ending T.Fclose_quiet_if_ending.kp T.bclose_quiet_if_ending .nil pass0 (pa_cons (pv 0) pa_nil)))
      (pss_cons (ps_expr (pe_call G_tidy_row hr rfl T.mtidy_row T.Ftidy_row.kp T.btidy_row .nil pass0 (pa_cons (pv 0) pa_nil)))
      (pss_one (ps_expr (pe_call G_take_turns hr rfl T.mtake_turns T.Ftake_turns.kp T.btake_turns .nil pass0 (pa_cons (pv 0) pa_nil)))))), ?_⟩
    obtain ⟨q1, q2, q3⟩ := quiet_ok ok
    rw [settle_eq er] at hW k
    rw [then_fst] at k
    rw [then_snd] at hW k
    simp only [List.length_append] at hW
    refine ⟨_, rfl, o, A, s, W, rfl, R, ok, by omega, fun o2 H2 A2 ep2 R2 ex2 => ?_⟩
    refine ⟨_, rfl, o2, A2, _, _, (by rw [ep2]; rfl), R2, q1, fun o4 H4 A4 ep4 R4 ex4 => ?_⟩
    have er4 : (tidy (quietOut s).1).rules = some r := by show (quietOut s).1.rules = some r; rw [q2.rules, er]
    have ea4 : (tidy (quietOut s).1).asked < 100000 := by show (quietOut s).1.asked < 100000; rw [q2.asked]; exact has
    refine ⟨_, rfl, o4, A4, _, _, r, (by rw [ep4, ep2]; rfl), R4, q1.tidy, er4, ea4, ?_, fun o5 H5 A5 ep5 R5 ex5 => ?_⟩
    · simp only [List.length_append]
      show _ + (after (quietOut s).1).2.length < _
      omega
    · refine k o5 H5 A5 (by rw [ep5, ep4, ep2]) ?_ ((ex2.trans ex4).trans ex5)
      rw [List.append_assoc] at R5
      exact R5
def sp_go_on (t : Adr) : Sp := fun vs H Q _ => ∃ (o : Own) (A : SA) (s : Server) (W : List Want) (n : Nat), vs = [.ref A.p, nv n] ∧ Rep (clOf t) o H A s W ∧ Ok s ∧ s.asked < 100000 ∧ W.length + (passes s n).2.length < sizeLine ∧ Leaves t o H A (passes s n).1 (W ++ (passes s n).2) (Q .non)
theorem ok_go_on (T : Txt K mg t) : FnOk P w K mg base CX0 5 t.fgo_on t.dgo_on ["server", "now"] (sp_go_on t) := by
  have G_drop_late : FnOk P w K mg base CX0 4 t.fdrop_late t.ddrop_late ["server"] (sp_drop_late t) := (ok_drop_late T).mono (by decide)
  have G_close_idle : FnOk P w K mg base CX0 4 t.fclose_idle t.dclose_idle ["server"] (sp_close_idle t) := (ok_close_idle T).mono (by decide)
  have G_end_what_is_due : FnOk P w K mg base CX0 4 t.fend_what_is_due t.dend_what_is_due ["server"] (sp_end_what_is_due t) := ok_end_what_is_due T
  refine T.Fgo_on.ok sc_go_on (fun vs H Q E h => ?_) (fun cdv A outer s H vs Q E hr h => ?_)
  · obtain ⟨o, A, s, W, n, rfl, _⟩ := h; rfl
  · obtain ⟨o, A, s, W, n, rfl, R, ok, has, hW, k⟩ := h
    refine ⟨_, (pss_cons (ps_fld (pv 0) (pe_callB (call_max2 rfl) (by rfl) T.max PyProof.Rows.boot_max (pa_cons (pe_fld (pv 0) rfl) (pa_cons (pv 1) pa_nil))) rfl)
      (pss_cons (ps_if (pt_cmp (pc_isN (pe_fld (pv 0) rfl))) (pss_one ps_retN) pss_nil)
      (pss_cons (ps_expr (pe_call G_drop_late hr rfl T.mdrop_late T.Fdrop_late.kp T.bdrop_late .nil pass0 (pa_cons (pv 0) pa_nil)))
      (pss_cons (ps_expr (pe_call G_close_idle hr rfl T.mclose_idle T.Fclose_idle.kp T.bclose_idle .nil pass0 (pa_cons (pv 0) pa_nil)))
      (pss_one (ps_expr (pe_call G_end_what_is_due hr rfl T.mend_what_is_due T.Fend_what_is_due.kp T.bend_what_is_due .nil pass0 (pa_cons (pv 0) pa_nil)))))))), ?_⟩
    obtain ⟨dx, ge, hp, hge⟩ := R.sv
    refine ⟨_, rfl, A.p, _, dx, _, _, rfl, hp, T.clServer, T.nServer_now, rfl, _, rfl, _, _, rfl, _, rfl, A.p, _, dx, _, rfl, hp, T.clServer, T.nServer_now, (by show 10 < 1000; decide), ?_⟩
    have emax : (if (n : Int) > (s.now : Int) then (n : Int) else (s.now : Int)) = ((max s.now n : Nat) : Int) := by split <;> omega
    rw [emax]
    have R1 := R.scal (s' := { s with now := max s.now n }) (dx := dx) (ge := ge) rfl rfl rfl (Nat.le_max_left _ _) hge
    have ok1 : Ok { s with now := max s.now n } := ok.later (Nat.le_max_left _ _)
    have ex1 : Ext o H o _ := Ext.scal R (u := .ins t.CServer dx (sf (rv s A.u) (max s.now n) A.d A.r s.ends.isSome ge s.asked s.answered s.refused A.w))
    refine ⟨_, rfl, A.p, _, dx, _, _, rfl, upd_same, T.clServer, T.nServer_rules, rfl, _, rfl, ?_⟩
    cases er : s.rules with
    | none =>
      have e1 : rv s A.u = .non := by unfold rv; rw [er]
      rw [passes_none er, List.append_nil] at k
      rw [e1] at R1 ex1 ⊢
      refine iteT ?_
      exact k o _ A rfl R1 ex1
    | some r =>
      have e1 : rv s A.u = .ref A.u := by unfold rv; rw [er]
      rw [e1] at R1 ex1 ⊢
      rw [passes_eq er] at k hW
      rw [then_fst, then_fst] at k
      rw [then_snd, then_snd] at k hW
      simp only [List.length_append] at hW
      have i1 := lateAll_ok (r := r) ok1
      obtain ⟨i2, i3⟩ := idle_ok (r := r) i1
      have lr : (lateAll r { s with now := max s.now n }).1.rules = some r := by rw [lateAll_def]; exact er
      have la : (lateAll r { s with now := max s.now n }).1.asked = s.asked := by rw [lateAll_def]
      refine iteF ?_
      refine ⟨_, rfl, o, A, _, W, r, rfl, R1, ok1.toOk0, er, has, by omega, fun o2 H2 A2 ep2 R2 ex2 => ?_⟩
      refine ⟨_, rfl, o2, A2, _, _, r, (by rw [ep2]; rfl), R2, i1, lr, by rw [List.length_append]; omega, fun o3 H3 A3 ep3 R3 ex3 => ?_⟩
      refine ⟨_, rfl, o3, A3, _, _, r, (by rw [ep3, ep2]; rfl), R3, i2, by rw [i3.rules, lr], by rw [i3.asked, la]; exact has, ?_, fun o4 H4 A4 ep4 R4 ex4 => ?_⟩
      · simp only [List.length_append]
        show _ + (endDue _).2.length < _
        unfold endDue
        omega
      · refine k o4 H4 A4 (by rw [ep4, ep3, ep2]) ?_ (((ex1.trans ex2).trans ex3).trans ex4)
        rw [List.append_assoc, List.append_assoc] at R4
        exact R4
end
end Fd
end
section
namespace Fd
open PySem L2 Sw55
theorem within_time {n : Nat} : within n 0 TIME = true ↔ ¬ TIME < n := by
  unfold within
  rw [Bool.and_eq_true, decide_eq_true_iff, decide_eq_true_iff]
  omega
structure Asked (s : Server) (W : List Want) (c : Sw55.Call) : Prop where
  ok : Ok s
  as : s.asked < 99999
  le : W.length + (Sw55.step s c).2.wants.length < sizeLine
def Gives (t : Adr) (o : Own) (H : Hp) (A : SA) (s : Server) (W : List Want) (c : Sw55.Call) (Q : VK) : Prop :=
  Leaves t o H A (Sw55.step s c).1 (W ++ (Sw55.step s c).2.wants) (Q (.int (Sw55.step s c).2.v))
section
variable {P : Program} {w : World} {K : PySem.W.Frag} {mg : Str → Option Value} {base : Heap} {t : Adr}
def sp_begin (t : Adr) : Sp := fun vs H Q _ => ∃ (o : Own) (A : SA) (s : Server) (W : List Want) (u dy : Addr) (r : Rules) (n : Nat), vs = [.ref A.p, .ref u, nv n] ∧ Rep (clOf t) o H A s W ∧ H u = some (.ins t.CRules dy (uf r)) ∧ o u = .data ∧
  Gives t o H A s W (.begin_ r.most r.each r.work r.wait r.idle r.limit r.rate r.burst n) Q
theorem begin_eq (s : Server) (r : Rules) (n : Nat) : Sw55.step s (.begin_ r.most r.each r.work r.wait r.idle r.limit r.rate r.burst n) = if (rulesFit r && within n 0 TIME) = false then says s (-1) else Sw55.ok 0 (done { rules := some r, now := n }) := by
  unfold Sw55.step
  dsimp only
  have e : (within r.most 1 CONNS && (within r.each 1 CONNS && (within r.work 1 1024 && (within r.wait 0 64 && (within r.idle 0 (2 ^ 31) && (within r.limit 0 (2 ^ 31) && (within r.rate 0 1000000 && (within r.burst 1 1000 && within n 0 TIME)))))))) = (rulesFit r && within n 0 TIME) := by
    unfold rulesFit CONNS
    simp only [Bool.and_assoc]
  rw [e]
theorem ok_begin (T : Txt K mg t) : FnOk P w K mg base CX0 3 t.fbegin t.dbegin ["server", "rules", "now"] (sp_begin t) := by
  have G_rules_fit : FnOk P w K mg base CX0 2 t.frules_fit t.drules_fit ["rules"] (sp_rules_fit t) := ok_rules_fit T
  have G_time_fits : FnOk P w K mg base CX0 2 t.ftime_fits t.dtime_fits ["now"] sp_time_fits := ok_time_fits T
  have G_set_anew : FnOk P w K mg base CX0 2 t.fset_anew t.dset_anew ["server", "rules", "now"] (sp_set_anew t) := (ok_set_anew T).mono (by decide)
  refine T.Fbegin.ok sc_begin (fun vs H Q E h => ?_) (fun cdv A outer s H vs Q E hr h => ?_)
  · obtain ⟨o, A, s, W, u, dy, r, n, rfl, _⟩ := h; rfl
  · obtain ⟨o, A, s, W, u, dy, r, n, rfl, R, hu, ou, k⟩ := h
    refine ⟨_, (pss_cons (ps_if (PW.pt (pw_or (pt_not (pt_val (pe_call G_rules_fit hr rfl T.mrules_fit T.Frules_fit.kp T.brules_fit .nil pass0 (pa_cons (pv 1) pa_nil)))) (pw_or1 (pt_not (pt_val (pe_call G_time_fits hr rfl T.mtime_fits T.Ftime_fits.kp T.btime_fits .nil pass0 (pa_cons (pv 2) pa_nil))))))) (pss_one (ps_ret (pe_gi rfl T.cOUT_OF_RANGE))) pss_nil)
      (pss_cons (ps_expr (pe_call G_set_anew hr rfl T.mset_anew T.Fset_anew.kp T.bset_anew .nil pass0 (pa_cons (pv 0) (pa_cons (pv 1) (pa_cons (pv 2) pa_nil)))))
      (pss_one (ps_ret pe_int)))), ?_⟩
    unfold Gives at k
    rw [begin_eq] at k
    refine ⟨_, rfl, u, dy, r, rfl, hu, _, rfl, ?_⟩
    have bad : (rulesFit r && within n 0 TIME) = false → Q (.int (-1)) H := fun z => by
      rw [if_pos z] at k
      exact k o H A rfl (by show Rep _ _ _ _ _ (W ++ []); rw [List.append_nil]; exact R) (Ext.refl _ _)
    cases z1 : rulesFit r with
    | false =>
      refine iteT (iteT ?_)
      exact bad (by rw [z1, Bool.false_and])
    | true =>
      refine iteF ?_
      refine ⟨_, rfl, n, rfl, _, rfl, ?_⟩
      cases z2 : within n 0 TIME with
      | false =>
        refine iteT ?_
        exact bad (by rw [z2, Bool.and_false])
      | true =>
        rw [z1, z2, if_neg (by simp)] at k
        refine iteF ?_
        refine ⟨_, rfl, _, rfl, _, rfl, o, A, s, W, u, dy, r, n, rfl, R, hu, ou, fun o2 H2 A2 ep R2 ex => ?_⟩
        exact k o2 H2 A2 ep (by show Rep _ _ _ _ _ (W ++ []); rw [List.append_nil]; exact R2) ex
def sp_refuses (t : Adr) : Sp := fun vs H Q _ => ∃ (o : Own) (A : SA) (s : Server) (W : List Want) (k n : Nat), vs = [.ref A.p, nv k, nv n] ∧ Rep (clOf t) o H A s W ∧ Ok s ∧ s.asked < 100000 ∧ (¬ TIME < n → W.length + (passes s n).2.length < sizeLine) ∧
  (TIME < n → Q (.int (-1)) H) ∧ (¬ TIME < n → pick (passes s n).1.conns k = none → Leaves t o H A (passes s n).1 (W ++ (passes s n).2) (Q (.int (-2)))) ∧
  (∀ c, ¬ TIME < n → pick (passes s n).1.conns k = some c → Leaves t o H A (passes s n).1 (W ++ (passes s n).2) (Q (.int 0)))
theorem ok_refuses (T : Txt K mg t) : FnOk P w K mg base CX0 6 t.frefuses t.drefuses ["server", "who", "now"] (sp_refuses t) := by
  have G_time_fits : FnOk P w K mg base CX0 5 t.ftime_fits t.dtime_fits ["now"] sp_time_fits := (ok_time_fits T).mono (by decide)
  have G_go_on : FnOk P w K mg base CX0 5 t.fgo_on t.dgo_on ["server", "now"] (sp_go_on t) := ok_go_on T
  refine T.Frefuses.ok sc_refuses (fun vs H Q E h => ?_) (fun cdv A outer s H vs Q E hr h => ?_)
  · obtain ⟨o, A, s, W, k, n, rfl, _⟩ := h; rfl
  · obtain ⟨o, A, s, W, k, n, rfl, R, ok, has, hW, k1, k2, k3⟩ := h
    refine ⟨_, (pss_cons (ps_if (pt_not (pt_val (pe_call G_time_fits hr rfl T.mtime_fits T.Ftime_fits.kp T.btime_fits .nil pass0 (pa_cons (pv 2) pa_nil)))) (pss_one (ps_ret (pe_gi rfl T.cOUT_OF_RANGE))) pss_nil)
      (pss_cons (ps_expr (pe_call G_go_on hr rfl T.mgo_on T.Fgo_on.kp T.bgo_on .nil pass0 (pa_cons (pv 0) (pa_cons (pv 2) pa_nil))))
      (pss_cons (ps_if (pt_cmp (pc_dnotin (hu_of hr) (pv 1) (pe_fld (pv 0) rfl))) (pss_one (ps_ret (pe_gi rfl T.cNOBODY))) pss_nil)
      (pss_one (ps_ret pe_int))))), ?_⟩
    refine ⟨_, rfl, n, rfl, _, rfl, ?_⟩
    cases z : within n 0 TIME with
    | false =>
      refine iteT ?_
      exact k1 (by
        rcases Nat.lt_or_ge TIME n with y | y
        · exact y
        · rw [within_time.mpr (by omega)] at z; cases z)
    | true =>
      have nt := within_time.mp z
      refine iteF ?_
      refine ⟨_, rfl, _, rfl, o, A, s, W, n, rfl, R, ok, has, hW nt, fun o2 H2 A2 ep R2 ex => ?_⟩
      obtain ⟨dx, ge, hp, _⟩ := R2.sv
      rw [ep] at hp
      obtain ⟨pok, _⟩ := passes_ok ok n
      refine ⟨_, rfl, _, rfl, A.p, _, dx, _, _, rfl, hp, T.clServer, T.nServer_inside, rfl, A2.d, _, rfl, DGet.k (k := Sum.inl (k : Int)) R2.di, _, rfl, ?_⟩
      cases e : pick (passes s n).1.conns k with
      | none =>
        rw [R2.look_none e]
        refine iteT ?_
        exact k2 nt e o2 H2 A2 ep R2 ex
      | some c =>
        obtain ⟨hc1, hc2⟩ := pick_some e
        obtain ⟨g, hg, zz, e2⟩ := R2.look pok.srt hc1
        rw [hc2] at e2
        rw [e2]
        refine iteF ?_
        exact k3 c nt e o2 H2 A2 ep R2 ex
def sp_tick (t : Adr) : Sp := fun vs H Q _ => ∃ (o : Own) (A : SA) (s : Server) (W : List Want) (n : Nat), vs = [.ref A.p, nv n] ∧ Rep (clOf t) o H A s W ∧ Asked s W (.tick n) ∧ Gives t o H A s W (.tick n) Q
theorem ok_tick (T : Txt K mg t) : FnOk P w K mg base CX0 6 t.ftick t.dtick ["server", "now"] (sp_tick t) := by
  have G_time_fits : FnOk P w K mg base CX0 5 t.ftime_fits t.dtime_fits ["now"] sp_time_fits := (ok_time_fits T).mono (by decide)
  have G_go_on : FnOk P w K mg base CX0 5 t.fgo_on t.dgo_on ["server", "now"] (sp_go_on t) := ok_go_on T
  refine T.Ftick.ok sc_tick (fun vs H Q E h => ?_) (fun cdv A outer s H vs Q E hr h => ?_)
  · obtain ⟨o, A, s, W, n, rfl, _⟩ := h; rfl
  · obtain ⟨o, A, s, W, n, rfl, R, ⟨ok, has, hW⟩, k⟩ := h
    refine ⟨_, (pss_cons (ps_if (pt_not (pt_val (pe_call G_time_fits hr rfl T.mtime_fits T.Ftime_fits.kp T.btime_fits .nil pass0 (pa_cons (pv 1) pa_nil)))) (pss_one (ps_ret (pe_gi rfl T.cOUT_OF_RANGE))) pss_nil)
      (pss_cons (ps_expr (pe_call G_go_on hr rfl T.mgo_on T.Fgo_on.kp T.bgo_on .nil pass0 (pa_cons (pv 0) (pa_cons (pv 1) pa_nil))))
      (pss_one (ps_ret pe_int)))), ?_⟩
    refine ⟨_, rfl, n, rfl, _, rfl, ?_⟩
    unfold Gives at k
    have e1 : Sw55.step s (.tick n) = if TIME < n then says s (-1) else Sw55.ok 0 (passes s n) := rfl
    rw [e1] at k hW
    cases z : within n 0 TIME with
    | false =>
      have lt : TIME < n := by
        rcases Nat.lt_or_ge TIME n with y | y
        · exact y
        · rw [within_time.mpr (by omega)] at z; cases z
      rw [if_pos lt] at k
      refine iteT ?_
      exact k o H A rfl (by show Rep _ _ _ _ _ (W ++ []); rw [List.append_nil]; exact R) (Ext.refl _ _)
    | true =>
      have nt := within_time.mp z
      rw [if_neg nt] at k hW
      refine iteF ?_
      refine ⟨_, rfl, _, rfl, o, A, s, W, n, rfl, R, ok, by omega, hW, fun o2 H2 A2 ep R2 ex => ?_⟩
      exact k o2 H2 A2 ep R2 ex
end
end Fd
end
section
namespace Fd
open PySem L2 Sw55
theorem then_len (x : Does) (f : Server → Does) : (x.then_ f).2.length = x.2.length + (f x.1).2.length := by rw [then_snd, List.length_append]
theorem ofConn_wants {s : Server} {k n : Nat} {f : Rules → Server → Conn → Int × Does} (ok : Ok s) (nt : ¬ TIME < n) : (passes s n).2.length ≤ (ofConn s k n f).2.wants.length := by
  obtain ⟨pok, _⟩ := passes_ok ok n
  cases e : pick (passes s n).1.conns k with
  | none => rw [ofConn_out nt e]; exact Nat.le_refl _
  | some c =>
    obtain ⟨r, er⟩ := in_rules pok.toOk0 e
    rw [ofConn_in nt er e]
    show _ ≤ ((passes s n).then_ (fun _ => (f r (passes s n).1 c).2.then_ Sw55.settle)).2.length
    rw [then_len]
    omega
section
variable {P : Program} {w : World} {K : PySem.W.Frag} {mg : Str → Option Value} {base : Heap} {t : Adr}
def sp_hear (t : Adr) : Sp := fun vs H Q _ => ∃ (o : Own) (A : SA) (s : Server) (W : List Want) (k n : Nat), vs = [.ref A.p, nv k, nv n] ∧ Rep (clOf t) o H A s W ∧ Asked s W (.heard k n) ∧ Gives t o H A s W (.heard k n) Q
theorem ok_hear (T : Txt K mg t) : FnOk P w K mg base CX0 7 t.fhear t.dhear ["server", "who", "now"] (sp_hear t) := by
  have G_refuses : FnOk P w K mg base CX0 6 t.frefuses t.drefuses ["server", "who", "now"] (sp_refuses t) := ok_refuses T
  have G_settle : FnOk P w K mg base CX0 6 t.fsettle t.dsettle ["server"] (sp_settle t) := (ok_settle T).mono (by decide)
  refine T.Fhear.ok sc_hear (fun vs H Q E h => ?_) (fun cdv A outer s H vs Q E hr h => ?_)
  · obtain ⟨o, A, s, W, k, n, rfl, _⟩ := h; rfl
  · obtain ⟨o, A, s, W, k, n, rfl, R, ⟨ok, has, hW⟩, kk⟩ := h
    refine ⟨_, (pss_cons (ps_set (i := 3) sc_hear.nd rfl (Or.inl rfl) (pe_call G_refuses hr rfl T.mrefuses T.Frefuses.kp T.brefuses .nil pass0 (pa_cons (pv 0) (pa_cons (pv 1) (pa_cons (pv 2) pa_nil)))))
      (pss_cons (ps_if (pt_cmpR op_lt (pv 3) pe_int (nomark _)) (pss_one (ps_ret (pv 3))) pss_nil)
      (pss_cons (ps_set (i := 4) sc_hear.nd rfl (Or.inl rfl) (pe_dget (hu_of hr) (pe_fld (pv 0) rfl) (pv 1) (fun _ _ => rfl)))
      (pss_cons (ps_fld (pv 4) (pe_fld (pv 0) rfl) rfl)
      (pss_cons (ps_expr (pe_call G_settle hr rfl T.msettle T.Fsettle.kp T.bsettle .nil pass0 (pa_cons (pv 0) pa_nil)))
      (pss_one (ps_ret pe_int))))))), ?_⟩
    obtain ⟨pok, pset, pnow, prul, pend, pask⟩ := passes_ok ok n
    have es : Sw55.step s (.heard k n) = ofConn s k n fun _ t c => (0, done (t.with_ (heardNow t c))) := rfl
    unfold Gives at kk
    rw [es] at kk hW
    refine ⟨_, rfl, _, rfl, _, rfl, o, A, s, W, k, n, rfl, R, ok, by omega, fun nt => ?_, fun lt => ?_, fun nt e => ?_, fun c nt e => ?_⟩
    · exact Nat.lt_of_le_of_lt (Nat.add_le_add_left (ofConn_wants ok nt) _) hW
    · rw [ofConn_late lt] at kk
      refine ⟨_, rfl, _, _, rfl, rfl, _, rfl, iteT ⟨_, rfl, ?_⟩⟩
      exact kk.use (by show Rep _ _ _ _ _ (W ++ []); rw [List.append_nil]; exact R) rfl (Ext.refl _ _)
    · rw [ofConn_out nt e] at kk
      intro o2 H2 A2 ep R2 ex
      refine ⟨_, rfl, _, _, rfl, rfl, _, rfl, iteT ⟨_, rfl, ?_⟩⟩
      exact kk.use R2 ep ex
    · obtain ⟨r, er⟩ := in_rules pok.toOk0 e
      rw [ofConn_in nt er e] at kk hW
      intro o2 H2 A2 ep R2 ex
      refine ⟨_, rfl, _, _, rfl, rfl, _, rfl, iteF ?_⟩
      obtain ⟨hc, hk⟩ := pick_some e
      subst hk
      obtain ⟨dx, ge, hp, _⟩ := R2.sv
      rw [ep] at hp
      obtain ⟨g, hg, z, eg⟩ := R2.look pok.srt hc
      obtain ⟨dy, ch, lo, hga, hlv⟩ := z.ob
      refine ⟨_, rfl, A.p, _, dx, _, _, rfl, hp, T.clServer, T.nServer_inside, rfl, _, rfl, A2.d, _, rfl, R2.dget eg, ?_⟩
      refine ⟨_, rfl, A.p, _, dx, _, _, rfl, hp, T.clServer, T.nServer_now, rfl, _, rfl, g.a, _, dy, _, rfl, hga, T.clGuest, T.nGuest_heard_at, (by show 8 < 1000; decide), ?_⟩
      have R3 := R2.gput pok.srt hg hc z (x' := heardNow (passes s n).1 c) rfl rfl rfl (dx := dy) (ch := ch) (lo := lo) hlv
      have ok3 : Ok ((passes s n).1.with_ (heardNow (passes s n).1 c)) := heard_mid pok hc
      have hW2 : W.length + ((passes s n).then_ fun _ => Does.then_ (done ((passes s n).1.with_ (heardNow (passes s n).1 c))) settle).2.length < sizeLine := hW
      rw [then_len, then_len] at hW2
      have hW3 : W.length + ((passes s n).2.length + (0 + (settle ((passes s n).1.with_ (heardNow (passes s n).1 c))).2.length)) < sizeLine := hW2
      refine ⟨_, rfl, o2, _, _, _, r, (by show _ = [V.ref A2.p]; rw [ep]; rfl), R3, ok3.toOk0, er, (by show (passes s n).1.asked < _; omega), (by rw [List.length_append]; omega), fun o4 H4 A4 ep4 R4 ex4 => ?_⟩
      refine kk.use (A' := A4) ?_ (ep4.trans ep) ((ex.trans (Ext.gput z)).trans ex4)
      rw [List.append_assoc] at R4
      exact R4
def sp_weigh (t : Adr) : Sp := fun vs H Q _ => ∃ (o : Own) (A : SA) (s : Server) (W : List Want) (k v n : Nat), vs = [.ref A.p, nv k, nv v, nv n] ∧ Rep (clOf t) o H A s W ∧ Asked s W (.weight k v n) ∧ Gives t o H A s W (.weight k v n) Q
theorem ok_weigh (T : Txt K mg t) : FnOk P w K mg base CX0 7 t.fweigh t.dweigh ["server", "who", "weight", "now"] (sp_weigh t) := by
  have G_weight_fits : FnOk P w K mg base CX0 6 t.fweight_fits t.dweight_fits ["weight"] sp_weight_fits := (ok_weight_fits T).mono (by decide)
  have G_refuses : FnOk P w K mg base CX0 6 t.frefuses t.drefuses ["server", "who", "now"] (sp_refuses t) := ok_refuses T
  have G_settle : FnOk P w K mg base CX0 6 t.fsettle t.dsettle ["server"] (sp_settle t) := (ok_settle T).mono (by decide)
  refine T.Fweigh.ok sc_weigh (fun vs H Q E h => ?_) (fun cdv A outer s H vs Q E hr h => ?_)
  · obtain ⟨o, A, s, W, k, v, n, rfl, _⟩ := h; rfl
  · obtain ⟨o, A, s, W, k, v, n, rfl, R, ⟨ok, has, hW⟩, kk⟩ := h
    refine ⟨_, (pss_cons (ps_if (pt_not (pt_val (pe_call G_weight_fits hr rfl T.mweight_fits T.Fweight_fits.kp T.bweight_fits .nil pass0 (pa_cons (pv 2) pa_nil)))) (pss_one (ps_ret (pe_gi rfl T.cOUT_OF_RANGE))) pss_nil)
      (pss_cons (ps_set (i := 4) sc_weigh.nd rfl (Or.inl rfl) (pe_call G_refuses hr rfl T.mrefuses T.Frefuses.kp T.brefuses .nil pass0 (pa_cons (pv 0) (pa_cons (pv 1) (pa_cons (pv 3) pa_nil)))))
      (pss_cons (ps_if (pt_cmpR op_lt (pv 4) pe_int (nomark _)) (pss_one (ps_ret (pv 4))) pss_nil)
      (pss_cons (ps_set (i := 5) sc_weigh.nd rfl (Or.inl rfl) (pe_dget (hu_of hr) (pe_fld (pv 0) rfl) (pv 1) (fun _ _ => rfl)))
      (pss_cons (ps_fld (pv 5) (pv 2) rfl)
      (pss_cons (ps_expr (pe_call G_settle hr rfl T.msettle T.Fsettle.kp T.bsettle .nil pass0 (pa_cons (pv 0) pa_nil)))
      (pss_one (ps_ret pe_int)))))))), ?_⟩
    obtain ⟨pok, pset, pnow, prul, pend, pask⟩ := passes_ok ok n
    have es : Sw55.step s (.weight k v n) = if within v 1 16 = false then says s (-1) else ofConn s k n fun _ t c => (0, done (t.with_ { c with weight := v })) := rfl
    unfold Gives at kk
    rw [es] at kk hW
    refine ⟨_, rfl, v, rfl, _, rfl, ?_⟩
    cases zv : within v 1 16 with
    | false =>
      rw [if_pos zv] at kk
      refine iteT ?_
      exact kk.use (by show Rep _ _ _ _ _ (W ++ []); rw [List.append_nil]; exact R) rfl (Ext.refl _ _)
    | true =>
      rw [if_neg (by rw [zv]; simp)] at kk hW
      have v1 : 1 ≤ v ∧ v ≤ 16 := by unfold within at zv; simpa using zv
      refine iteF ?_
      refine ⟨_, rfl, _, rfl, _, rfl, o, A, s, W, k, n, rfl, R, ok, by omega, fun nt => ?_, fun lt => ?_, fun nt e => ?_, fun c nt e => ?_⟩
      · exact Nat.lt_of_le_of_lt (Nat.add_le_add_left (ofConn_wants ok nt) _) hW
      · rw [ofConn_late lt] at kk
        refine ⟨_, rfl, _, _, rfl, rfl, _, rfl, iteT ⟨_, rfl, ?_⟩⟩
        exact kk.use (by show Rep _ _ _ _ _ (W ++ []); rw [List.append_nil]; exact R) rfl (Ext.refl _ _)
      · rw [ofConn_out nt e] at kk
        intro o2 H2 A2 ep R2 ex
        refine ⟨_, rfl, _, _, rfl, rfl, _, rfl, iteT ⟨_, rfl, ?_⟩⟩
        exact kk.use R2 ep ex
      · obtain ⟨r, er⟩ := in_rules pok.toOk0 e
        rw [ofConn_in nt er e] at kk hW
        intro o2 H2 A2 ep R2 ex
        refine ⟨_, rfl, _, _, rfl, rfl, _, rfl, iteF ?_⟩
        obtain ⟨hc, hk⟩ := pick_some e
        subst hk
        obtain ⟨dx, ge, hp, _⟩ := R2.sv
        rw [ep] at hp
        obtain ⟨g, hg, z, eg⟩ := R2.look pok.srt hc
        obtain ⟨dy, ch, lo, hga, hlv⟩ := z.ob
        refine ⟨_, rfl, A.p, _, dx, _, _, rfl, hp, T.clServer, T.nServer_inside, rfl, _, rfl, A2.d, _, rfl, R2.dget eg, ?_⟩
        refine ⟨_, rfl, _, rfl, g.a, _, dy, _, rfl, hga, T.clGuest, T.nGuest_weight, (by show 8 < 1000; decide), ?_⟩
        have R3 := R2.gput pok.srt hg hc z (x' := { c with weight := v }) rfl rfl rfl (dx := dy) (ch := ch) (lo := lo) hlv
        have ok3 : Ok ((passes s n).1.with_ { c with weight := v }) := weight_mid pok hc v1.1 v1.2
        have hW2 : W.length + ((passes s n).then_ fun _ => Does.then_ (done ((passes s n).1.with_ { c with weight := v })) settle).2.length < sizeLine := hW
        rw [then_len, then_len] at hW2
        have hW3 : W.length + ((passes s n).2.length + (0 + (settle ((passes s n).1.with_ { c with weight := v })).2.length)) < sizeLine := hW2
        refine ⟨_, rfl, o2, _, _, _, r, (by show _ = [V.ref A2.p]; rw [ep]; rfl), R3, ok3.toOk0, er, (by show (passes s n).1.asked < _; omega), (by rw [List.length_append]; omega), fun o4 H4 A4 ep4 R4 ex4 => ?_⟩
        refine kk.use (A' := A4) ?_ (ep4.trans ep) ((ex.trans (Ext.gput z)).trans ex4)
        rw [List.append_assoc] at R4
        exact R4
def sp_leave (t : Adr) : Sp := fun vs H Q _ => ∃ (o : Own) (A : SA) (s : Server) (W : List Want) (k n : Nat), vs = [.ref A.p, nv k, nv n] ∧ Rep (clOf t) o H A s W ∧ Asked s W (.leaves k n) ∧ Gives t o H A s W (.leaves k n) Q
theorem ok_leave (T : Txt K mg t) : FnOk P w K mg base CX0 7 t.fleave t.dleave ["server", "who", "now"] (sp_leave t) := by
  have G_refuses : FnOk P w K mg base CX0 6 t.frefuses t.drefuses ["server", "who", "now"] (sp_refuses t) := ok_refuses T
  have G_settle : FnOk P w K mg base CX0 6 t.fsettle t.dsettle ["server"] (sp_settle t) := (ok_settle T).mono (by decide)
  have G_cancel_work : FnOk P w K mg base CX0 6 t.fcancel_work t.dcancel_work ["server", "who"] (sp_cancel_work t) := (ok_cancel_work T).mono (by decide)
  have G_send_away : FnOk P w K mg base CX0 6 t.fsend_away t.dsend_away ["server", "who"] (sp_send_away t) := (ok_send_away T).mono (by decide)
  refine T.Fleave.ok sc_leave (fun vs H Q E h => ?_) (fun cdv A outer s H vs Q E hr h => ?_)
  · obtain ⟨o, A, s, W, k, n, rfl, _⟩ := h; rfl
  · obtain ⟨o, A, s, W, k, n, rfl, R, ⟨ok, has, hW⟩, kk⟩ := h
    refine ⟨_, (pss_cons (ps_set (i := 3) sc_leave.nd rfl (Or.inl rfl) (pe_call G_refuses hr rfl T.mrefuses T.Frefuses.kp T.brefuses .nil pass0 (pa_cons (pv 0) (pa_cons (pv 1) (pa_cons (pv 2) pa_nil)))))
      (pss_cons (ps_if (pt_cmpR op_lt (pv 3) pe_int (nomark _)) (pss_one (ps_ret (pv 3))) pss_nil)
      (pss_cons (ps_set (i := 4) sc_leave.nd rfl (Or.inl rfl) (pe_dget (hu_of hr) (pe_fld (pv 0) rfl) (pv 1) (fun _ _ => rfl)))
      (pss_cons (ps_expr (pe_call G_cancel_work hr rfl T.mcancel_work T.Fcancel_work.kp T.bcancel_work .nil pass0 (pa_cons (pv 0) (pa_cons (pv 1) pa_nil))))
      (pss_cons (ps_expr (pe_call G_send_away hr rfl T.msend_away T.Fsend_away.kp T.bsend_away .nil pass0 (pa_cons (pv 0) (pa_cons (pv 1) pa_nil))))
      (pss_cons (ps_expr (pe_call G_settle hr rfl T.msettle T.Fsettle.kp T.bsettle .nil pass0 (pa_cons (pv 0) pa_nil)))
      (pss_one (ps_ret (pe_op op_add (pe_callB call_len_seq (by rfl) T.len PySem.boot_len (pa_cons (pe_fld (pv 4) rfl) pa_nil)) (pe_callB call_len_seq (by rfl) T.len PySem.boot_len (pa_cons (pe_fld (pv 4) rfl) pa_nil))))))))))), ?_⟩
    obtain ⟨pok, pset, pnow, prul, pend, pask⟩ := passes_ok ok n
    have es : Sw55.step s (.leaves k n) = ofConn s k n fun _ t c => ((c.waiting.length + c.working.length : Nat), (t.without k, c.working.map fun w => .cancel k w.1)) := rfl
    unfold Gives at kk
    rw [es] at kk hW
    refine ⟨_, rfl, _, rfl, _, rfl, o, A, s, W, k, n, rfl, R, ok, by omega, fun nt => ?_, fun lt => ?_, fun nt e => ?_, fun c nt e => ?_⟩
    · exact Nat.lt_of_le_of_lt (Nat.add_le_add_left (ofConn_wants ok nt) _) hW
    · rw [ofConn_late lt] at kk
      refine ⟨_, rfl, _, _, rfl, rfl, _, rfl, iteT ⟨_, rfl, ?_⟩⟩
      exact kk.use (by show Rep _ _ _ _ _ (W ++ []); rw [List.append_nil]; exact R) rfl (Ext.refl _ _)
    · rw [ofConn_out nt e] at kk
      intro o2 H2 A2 ep R2 ex
      refine ⟨_, rfl, _, _, rfl, rfl, _, rfl, iteT ⟨_, rfl, ?_⟩⟩
      exact kk.use R2 ep ex
    · obtain ⟨r, er⟩ := in_rules pok.toOk0 e
      rw [ofConn_in nt er e] at kk hW
      intro o2 H2 A2 ep R2 ex
      refine ⟨_, rfl, _, _, rfl, rfl, _, rfl, iteF ?_⟩
      obtain ⟨hc, hk⟩ := pick_some e
      subst hk
      obtain ⟨dx, ge, hp, _⟩ := R2.sv
      rw [ep] at hp
      obtain ⟨g, hg, z, eg⟩ := R2.look pok.srt hc
      obtain ⟨dy, ch, lo, hga, hlv⟩ := z.ob
      have hW2 : W.length + ((passes s n).then_ fun _ => Does.then_ ((passes s n).1.without c.number, cancelsOf c) settle).2.length < sizeLine := hW
      rw [then_len, then_len] at hW2
      have hW3 : W.length + ((passes s n).2.length + ((cancelsOf c).length + (settle ((passes s n).1.without c.number)).2.length)) < sizeLine := hW2
      have lc : (cancelsOf c).length = c.working.length := List.length_map ..
      refine ⟨_, rfl, A.p, _, dx, _, _, rfl, hp, T.clServer, T.nServer_inside, rfl, _, rfl, A2.d, _, rfl, R2.dget eg, ?_⟩
      refine ⟨_, rfl, _, rfl, o2, A2, _, _, c, (by rw [ep]; rfl), R2, pok.toOk0, hc, (by rw [List.length_append]; omega), fun o3 H3 ws3 R3 kp3 => ?_⟩
      refine ⟨_, rfl, _, rfl, o3, { A2 with ws := ws3 }, _, _, c, (by show _ = [V.ref A2.p, _]; rw [ep]; rfl), R3, pok.toOk0, hc, fun H4 R4 kp4 => ?_⟩
      have kg : ∀ {b : Addr} {u : HO} {ro : Role}, H2 b = some u → o2 b = ro → ro.of = some c.number → H4 b = some u ∧ away o3 c.number b = .out := fun {b u ro} hb e1 e2 => by
        have n1 : o2 b ≠ .srv := by rw [e1]; intro y; rw [y] at e2; cases e2
        have n2 : o2 b ≠ .wants := by rw [e1]; intro y; rw [y] at e2; cases e2
        obtain ⟨a1, a2⟩ := kp3 b u hb n1 n2
        refine ⟨kp4 b u a1 ?_ ?_, ?_⟩
        · rw [a2, e1]; intro y; rw [y] at e2; cases e2
        · rw [a2, e1]; intro y; rw [y] at e2; cases e2
        · unfold away
          rw [a2, e1, if_pos e2]
      obtain ⟨ga4, oa4⟩ := kg hga z.oa rfl
      obtain ⟨gw4, ow4⟩ := kg z.wl z.ow rfl
      obtain ⟨gk4, ok4⟩ := kg z.kl z.ok rfl
      have ex34 : Ext o2 H2 (away o3 c.number) H4 := fun b u hb q => by
        obtain ⟨a1, a2⟩ := kp3.ext b u hb q
        have r3 : o3 b = .out ∨ o3 b = .data := by rw [a2]; exact q
        refine ⟨kp4 b u a1 ?_ ?_, ?_⟩
        · intro y; rw [y] at r3; rcases r3 with r3 | r3 <;> cases r3
        · intro y; rw [y] at r3; rcases r3 with r3 | r3 <;> cases r3
        · rw [away_ne (by rcases r3 with r3 | r3 <;> rw [r3] <;> intro y <;> cases y)]; exact a2
      refine ⟨_, rfl, away o3 c.number, _, _, _, r, (by show _ = [V.ref A2.p]; rw [ep]; rfl), R4, pok.toOk0.without _, er, (by show (passes s n).1.asked < _; omega), (by rw [List.length_append, List.length_append]; omega), fun o5 H5 A5 ep5 R5 ex5 => ?_⟩
      obtain ⟨ga5, _⟩ := ex5 _ _ ga4 (.inl oa4)
      obtain ⟨gw5, _⟩ := ex5 _ _ gw4 (.inl ow4)
      obtain ⟨gk5, _⟩ := ex5 _ _ gk4 (.inl ok4)
      refine ⟨_, rfl, g.a, _, dy, _, _, rfl, ga5, T.clGuest, T.nGuest_working, rfl, g.ka, _, rfl, .inl (SqL.of gk5), _, rfl, g.a, _, dy, _, _, rfl, ga5, T.clGuest, T.nGuest_waiting, rfl, g.wa, _, rfl, .inl (SqL.of gw5), _, _, rfl, rfl, ?_⟩
      have ev : ((g.kq.map V.ref).length : Int) + ((g.wq.map V.ref).length : Int) = ((c.waiting.length + c.working.length : Nat) : Int) := by
        rw [List.length_map, List.length_map, z.kr.length, z.wr.length]
        omega
      show Q (.int (((g.kq.map V.ref).length : Int) + ((g.wq.map V.ref).length : Int))) H5
      rw [ev]
      refine kk.use (A' := A5) ?_ (ep5.trans ep) ((ex.trans ex34).trans ex5)
      rw [List.append_assoc, List.append_assoc] at R5
      exact R5
end
end Fd
end
section
namespace Fd
open PySem L2 Sw55
theorem within_range {n m : Nat} : within n 0 m = true ↔ ¬ m < n := by
  unfold within
  rw [Bool.and_eq_true, decide_eq_true_iff, decide_eq_true_iff]
  omega
theorem ok_wants (v : Int) (x : Does) : (Sw55.ok v x).2.wants = x.2 := rfl
def newConn (k from_ now level : Nat) : Conn := { number := k, from_ := from_, heard := now, level := level, levelAt := now }
theorem arrives_eq (s : Server) (a n : Nat) : Sw55.step s (.arrives a n) = if TIME < n ∨ 2 ^ 32 ≤ a then says s (-1) else match (passes s n).1.rules with
    | none => Sw55.ok (-4) (passes s n)
    | some r => if (passes s n).1.ends.isSome = true then Sw55.ok (-8) (passes s n) else if r.most ≤ (passes s n).1.conns.length then Sw55.ok (-6) (passes s n) else if r.each ≤ ((passes s n).1.conns.filter fun c => c.from_ == a).length then Sw55.ok (-7) (passes s n) else
      match (List.range CONNS).find? fun k => ((passes s n).1.conn k).isNone with
      | none => Sw55.ok (-6) (passes s n)
      | some k => Sw55.ok (k : Nat) ((passes s n).then_ fun t => done { t with conns := Sw55.insert (newConn k a t.now (1000 * r.burst)) t.conns }) := rfl
section
variable {P : Program} {w : World} {K : PySem.W.Frag} {mg : Str → Option Value} {base : Heap} {t : Adr}
def sp_arrive (t : Adr) : Sp := fun vs H Q _ => ∃ (o : Own) (A : SA) (s : Server) (W : List Want) (a n : Nat), vs = [.ref A.p, nv a, nv n] ∧ Rep (clOf t) o H A s W ∧ Asked s W (.arrives a n) ∧ Gives t o H A s W (.arrives a n) Q
theorem ok_arrive (T : Txt K mg t) : FnOk P w K mg base CX0 6 t.farrive t.darrive ["server", "address", "now"] (sp_arrive t) := by
  have G_address_fits : FnOk P w K mg base CX0 5 t.faddress_fits t.daddress_fits ["address"] sp_address_fits := (ok_address_fits T).mono (by decide)
  have G_time_fits : FnOk P w K mg base CX0 5 t.ftime_fits t.dtime_fits ["now"] sp_time_fits := (ok_time_fits T).mono (by decide)
  have G_go_on : FnOk P w K mg base CX0 5 t.fgo_on t.dgo_on ["server", "now"] (sp_go_on t) := ok_go_on T
  have G_count_from : FnOk P w K mg base CX0 5 t.fcount_from t.dcount_from ["server", "address"] (sp_count_from t) := (ok_count_from T).mono (by decide)
  have G_least_free_number : FnOk P w K mg base CX0 5 t.fleast_free_number t.dleast_free_number ["server"] (sp_least_free_number t) := (ok_least_free_number T).mono (by decide)
  have G_Guest_init : FnOk P w K mg base CX0 4 t.fGuest_init t.dGuest_init ["self", "address", "chances", "now"] (sp_Guest_init t) := (ok_Guest_init T).mono (by decide)
  refine T.Farrive.ok sc_arrive (fun vs H Q E h => ?_) (fun cdv A outer s H vs Q E hr h => ?_)
  · obtain ⟨o, A, s, W, a, n, rfl, _⟩ := h; rfl
  · obtain ⟨o, A, s, W, a, n, rfl, R, ⟨ok, has, hW⟩, kk⟩ := h
    refine ⟨_, (pss_cons (ps_if (PW.pt (pw_or (pt_not (pt_val (pe_call G_address_fits hr rfl T.maddress_fits T.Faddress_fits.kp T.baddress_fits .nil pass0 (pa_cons (pv 1) pa_nil)))) (pw_or1 (pt_not (pt_val (pe_call G_time_fits hr rfl T.mtime_fits T.Ftime_fits.kp T.btime_fits .nil pass0 (pa_cons (pv 2) pa_nil))))))) (pss_one (ps_ret (pe_gi rfl T.cOUT_OF_RANGE))) pss_nil)
      (pss_cons (ps_expr (pe_call G_go_on hr rfl T.mgo_on T.Fgo_on.kp T.bgo_on .nil pass0 (pa_cons (pv 0) (pa_cons (pv 2) pa_nil))))
      (pss_cons (ps_if (pt_cmp (pc_isN (pe_fld (pv 0) rfl))) (pss_one (ps_ret (pe_gi rfl T.cNO_RULES))) pss_nil)
      (pss_cons (ps_if (pt_val (pe_fld (pv 0) rfl)) (pss_one (ps_ret (pe_gi rfl T.cIS_ENDING))) pss_nil)
      (pss_cons (ps_if (pt_cmpR op_ge (pe_callB call_lenD (by rfl) T.len PySem.boot_len (pa_cons (pe_fld (pv 0) rfl) pa_nil)) (pe_fld (pe_fld (pv 0) rfl) rfl) (nomark _)) (pss_one (ps_ret (pe_gi rfl T.cFULL))) pss_nil)
      (pss_cons (ps_if (pt_cmpR op_ge (pe_call G_count_from hr rfl T.mcount_from T.Fcount_from.kp T.bcount_from .nil pass0 (pa_cons (pv 0) (pa_cons (pv 1) pa_nil))) (pe_fld (pe_fld (pv 0) rfl) rfl) (nomark _)) (pss_one (ps_ret (pe_gi rfl T.cADDRESS_FULL))) pss_nil)
      (pss_cons (ps_set (i := 3) sc_arrive.nd rfl (Or.inl rfl) (pe_call G_least_free_number hr rfl T.mleast_free_number T.Fleast_free_number.kp T.bleast_free_number .nil pass0 (pa_cons (pv 0) pa_nil)))
      (pss_cons (ps_dput (hu_of hr) (pe_fld (pv 0) rfl) (pv 3) (pe_make T.MGuest G_Guest_init hr rfl T.mGuest T.bGuest_init .nil pass0 (pa_cons (pv 1) (pa_cons (pe_op op_mul (pe_gi rfl T.cONE_CHANCE) (pe_fld (pe_fld (pv 0) rfl) rfl)) (pa_cons (pe_fld (pv 0) rfl) pa_nil)))) rfl)
      (pss_one (ps_ret (pv 3))))))))))), ?_⟩
    obtain ⟨pok, pset, pnow, prul, pend, pask⟩ := passes_ok ok n
    unfold Gives at kk
    rw [arrives_eq] at kk hW
    have bad : (TIME < n ∨ 2 ^ 32 ≤ a) → Q (.int (-1)) H := fun z => by
      rw [if_pos z] at kk
      exact kk.use (by show Rep _ _ _ _ _ (W ++ []); rw [List.append_nil]; exact R) rfl (Ext.refl _ _)
    refine ⟨_, rfl, a, rfl, _, rfl, ?_⟩
    cases z1 : within a 0 4294967295 with
    | false =>
      refine iteT (iteT ?_)
      refine bad (.inr ?_)
      rcases Nat.lt_or_ge a 4294967296 with y | y
      · rw [within_range.mpr (by omega)] at z1; cases z1
      · exact y
    | true =>
      have a1 := within_range.mp z1
      refine iteF ?_
      refine ⟨_, rfl, n, rfl, _, rfl, ?_⟩
      cases z2 : within n 0 TIME with
      | false =>
        refine iteT ?_
        refine bad (.inl ?_)
        rcases Nat.lt_or_ge TIME n with y | y
        · exact y
        · rw [within_time.mpr (by omega)] at z2; cases z2
      | true =>
        have nt := within_time.mp z2
        have ng : ¬ (TIME < n ∨ 2 ^ 32 ≤ a) := by rintro (y | y); exact nt y; omega
        rw [if_neg ng] at kk hW
        have hW0 : W.length + (passes s n).2.length < sizeLine := by
          refine Nat.lt_of_le_of_lt (Nat.add_le_add_left ?_ _) hW
          split
          · exact Nat.le_refl _
          · split
            · exact Nat.le_refl _
            · split
              · exact Nat.le_refl _
              · split
                · exact Nat.le_refl _
                · split
                  · exact Nat.le_refl _
                  · rw [ok_wants, then_len]
                    exact Nat.le_add_right _ _
        refine iteF ?_
        refine ⟨_, rfl, _, rfl, o, A, s, W, n, rfl, R, ok, by omega, hW0, fun o2 H2 A2 ep R2 ex => ?_⟩
        cases er : (passes s n).1.rules with
        | none =>
          obtain ⟨dx, ge, hp, _⟩ := R2.sv
          have e1 : rv (passes s n).1 A2.u = .non := by unfold rv; rw [er]
          rw [e1, ep] at hp
          refine ⟨_, rfl, A.p, _, dx, _, _, rfl, hp, T.clServer, T.nServer_rules, rfl, _, rfl, iteT ?_⟩
          rw [er] at kk
          exact kk.use R2 ep ex
        | some r =>
          obtain ⟨dx, ge, dz, hp, _, hu, ou⟩ := R2.rules er
          have hp0 := hp
          rw [ep] at hp
          rw [er] at kk
          refine ⟨_, rfl, A.p, _, dx, _, _, rfl, hp, T.clServer, T.nServer_rules, rfl, _, rfl, iteF ?_⟩
          refine ⟨_, rfl, A.p, _, dx, _, _, rfl, hp, T.clServer, T.nServer_ending, rfl, _, rfl, ?_⟩
          dsimp only at kk
          refine ite2 (fun z3 => ?_) (fun z3 => ?_)
          · rw [if_pos z3] at kk
            exact kk.use R2 ep ex
          · rw [if_neg z3] at kk
            refine ⟨_, rfl, A.p, _, dx, _, _, rfl, hp, T.clServer, T.nServer_inside, rfl, A2.d, _, rfl, R2.di, _, rfl, A.p, _, dx, _, _, rfl, hp, T.clServer, T.nServer_rules, rfl, A2.u, _, dz, _, _, rfl, hu, T.clRules, T.nRules_most, rfl, _, _, rfl, rfl, _, rfl, ?_⟩
            have ld : (dictOf A2.gs).length = (passes s n).1.conns.length := by unfold dictOf; rw [List.length_map, R2.count]
            rw [ld]
            refine ite2 (fun z4 => ?_) (fun z4 => ?_)
            · have z5 : r.most ≤ (passes s n).1.conns.length := by have := of_decide_eq_true z4; omega
              rw [if_pos z5] at kk
              exact kk.use R2 ep ex
            · have z5 : ¬ r.most ≤ (passes s n).1.conns.length := fun y => z4 (decide_eq_true (by omega))
              rw [if_neg z5] at kk
              refine ⟨_, rfl, _, rfl, o2, A2, _, _, a, (by rw [ep]; rfl), R2, pok.toOk0, fun H3 g3 => ?_⟩
              have R3 := R2.grow g3
              have hp3 := g3 _ _ hp
              have hu3 := g3 _ _ hu
              refine ⟨_, rfl, A.p, _, dx, _, _, rfl, hp3, T.clServer, T.nServer_rules, rfl, A2.u, _, dz, _, _, rfl, hu3, T.clRules, T.nRules_each, rfl, _, _, rfl, rfl, _, rfl, ?_⟩
              refine ite2 (fun z6 => ?_) (fun z6 => ?_)
              · have z7 : r.each ≤ ((passes s n).1.conns.filter fun c => c.from_ == a).length := by have := of_decide_eq_true z6; omega
                rw [if_pos z7] at kk
                exact kk.use R3 ep (ex.trans g3.ext)
              · have z7 : ¬ r.each ≤ ((passes s n).1.conns.filter fun c => c.from_ == a).length := fun y => z6 (decide_eq_true (by omega))
                rw [if_neg z7] at kk
                have ro := pok.rul r er
                obtain ⟨k, ek, kl, kn⟩ := free_number pok.toOk0 (by have := ro.most; omega)
                rw [ek] at kk
                refine ⟨_, rfl, o2, A2, _, _, k, (by rw [ep]; rfl), R3, pok.toOk0, kl, kn, ?_⟩
                refine ⟨_, rfl, _, rfl, A.p, _, dx, _, _, rfl, hp3, T.clServer, T.nServer_rules, rfl, A2.u, _, dz, _, _, rfl, hu3, T.clRules, T.nRules_burst, rfl, _, _, rfl, rfl, .inl ⟨by decide, by decide⟩, _, rfl, A.p, _, dx, _, _, rfl, hp3, T.clServer, T.nServer_now, rfl, fun x dx' hx hdx nxd => ?_⟩
                have emul : (1000 : Int) * (r.burst : Int) = ((1000 * r.burst : Nat) : Int) := by omega
                dsimp only
                refine ⟨x, dx', a, 1000 * r.burst, (passes s n).1.now, (by rw [emul]; rfl), upd_same, fun H5 wa ka hwa hka nwk h5x h5w h5k old => ⟨rfl, ?_⟩⟩
                have hwx : x ≠ wa := ne_of_none upd_same hwa
                have hkx : x ≠ ka := ne_of_none upd_same hka
                have hwa3 := hwa
                rw [upd_ne hwx.symm] at hwa3
                have ndw : dx' ≠ wa := ne_of_none upd_same hwa3
                rw [upd_ne ndw.symm] at hwa3
                have hka3 := hka
                rw [upd_ne hkx.symm] at hka3
                have ndk : dx' ≠ ka := ne_of_none upd_same hka3
                rw [upd_ne ndk.symm] at hka3
                have old3 : ∀ {b : Addr} {u : HO}, H3 b = some u → H5 b = some u := fun {b u} hb => by
                  rw [old b (ne_of_none hb hx) (ne_of_none hb hwa3) (ne_of_none hb hka3), upd_ne (ne_of_none hb hx), upd_ne (ne_of_none hb hdx)]
                  exact hb
                have hd5 := old3 R3.di
                have clen : (dictOf A2.gs).length < sizeLine := by rw [ld]; have := pok.len; show _ < 16777216; omega
                refine ⟨_, rfl, A.p, _, dx, _, _, rfl, old3 hp3, T.clServer, T.nServer_inside, rfl, _, rfl, A2.d, _, rfl, DPut.k (k := Sum.inl (k : Int)) hd5 clen, ?_⟩
                refine ⟨_, rfl, ?_⟩
                have nxD : x ≠ A2.d := (ne_of_none R3.di hx).symm
                have nwD : wa ≠ A2.d := (ne_of_none R3.di hwa3).symm
                have nkD : ka ≠ A2.d := (ne_of_none R3.di hka3).symm
                have oo : ∀ {b : Addr} {u : HO}, H3 b = some u → setR (setR (setR o2 x (.guest k)) wa (.wait k)) ka (.work k) b = o2 b := fun {b u} hb => by
                  rw [setR_ne (ne_of_none hb hka3), setR_ne (ne_of_none hb hwa3), setR_ne (ne_of_none hb hx)]
                have new : GuestAt (clOf t) (setR (setR (setR o2 x (.guest k)) wa (.wait k)) ka (.work k)) (upd H5 A2.d (.dK (putK (dictOf A2.gs) (Sum.inl (k : Int)) (V.ref x)))) (passes s n).1.rules (passes s n).1.now ⟨k, x, wa, ka, [], []⟩ (newConn k a (passes s n).1.now (1000 * r.burst)) := by
                  refine ⟨rfl, ⟨dx', 1000 * r.burst, (passes s n).1.now, ?_, Nat.le_refl _, fun r' _ n' _ => rfl⟩, ?_, ?_, ?_, ?_, setR_same, .nil, .nil⟩
                  · rw [upd_ne nxD]; exact h5x
                  · show setR _ _ _ x = .guest k
                    rw [setR_ne hkx, setR_ne hwx]; exact setR_same
                  · rw [upd_ne nwD]; exact h5w
                  · show setR _ _ _ wa = .wait k
                    rw [setR_ne nwk]; exact setR_same
                  · rw [upd_ne nkD]; exact h5k
                have R6 := R3.comes (H' := upd H5 A2.d (.dK (putK (dictOf A2.gs) (Sum.inl (k : Int)) (V.ref x)))) (o' := setR (setR (setR o2 x (.guest k)) wa (.wait k)) ka (.work k)) (g := ⟨k, x, wa, ka, [], []⟩) (x := newConn k a (passes s n).1.now (1000 * r.burst)) kn (fun b u hb _ nb => ⟨by rw [upd_ne nb]; exact old3 hb, oo hb⟩) (fun b nb => ?_) upd_same (by rw [oo R3.di]; exact R3.od) new
                · refine kk.use (o' := setR (setR (setR o2 x (.guest k)) wa (.wait k)) ka (.work k)) (A' := { A2 with gs := A2.gs ++ [⟨k, x, wa, ka, [], []⟩] }) ?_ ep ?_
                  · show Rep _ _ _ _ _ (W ++ ((passes s n).2 ++ []))
                    rw [List.append_nil]
                    exact R6
                  · refine (ex.trans g3.ext).trans ?_
                    intro b u hb q
                    refine ⟨?_, oo hb⟩
                    rw [upd_ne (fun y => by rw [y, R3.od] at q; rcases q with q | q <;> cases q)]
                    exact old3 hb
                · refine upd_dom ?_
                  by_cases e1 : b = ka
                  · rw [e1, h5k]; intro q; cases q
                  · rw [setR_ne e1] at nb
                    by_cases e2 : b = wa
                    · rw [e2, h5w]; intro q; cases q
                    · rw [setR_ne e2] at nb
                      by_cases e3 : b = x
                      · rw [e3, h5x]; intro q; cases q
                      · rw [setR_ne e3] at nb
                        cases e4 : H3 b with
                        | none => exact absurd e4 (R3.dom b nb)
                        | some u => rw [old3 e4]; intro q; cases q
end
end Fd
end
section
namespace Fd
open PySem L2 Sw55
theorem gives_ok {t : Adr} {o : Own} {H : Hp} {A : SA} {s : Server} {W : List Want} {c : Sw55.Call} {Q : VK} {v : Int} {x : Does} (e : Sw55.step s c = Sw55.ok v x) (k : Gives t o H A s W c Q) : Leaves t o H A x.1 (W ++ x.2) (Q (.int v)) := by
  unfold Gives at k
  rw [e] at k
  exact k
theorem gives_then {t : Adr} {o : Own} {H : Hp} {A : SA} {s : Server} {W : List Want} {c : Sw55.Call} {Q : VK} {v : Int} {x y : Does} {f : Server → Does} (e : Sw55.step s c = Sw55.ok v (x.then_ f)) (ey : f x.1 = y) (k : Gives t o H A s W c Q) : Leaves t o H A y.1 (W ++ (x.2 ++ y.2)) (Q (.int v)) := by
  subst ey
  exact gives_ok e k
theorem le_then {s : Server} {W : List Want} {c : Sw55.Call} {v : Int} {x y : Does} {f : Server → Does} (e : Sw55.step s c = Sw55.ok v (x.then_ f)) (ey : f x.1 = y) (h : W.length + (Sw55.step s c).2.wants.length < sizeLine) : W.length + (x.2 ++ y.2).length < sizeLine := by
  subst ey
  rw [e] at h
  exact h
section
variable {P : Program} {w : World} {K : PySem.W.Frag} {mg : Str → Option Value} {base : Heap} {t : Adr}
def sp_stop (t : Adr) : Sp := fun vs H Q _ => ∃ (o : Own) (A : SA) (s : Server) (W : List Want) (a n : Nat), vs = [.ref A.p, nv a, nv n] ∧ Rep (clOf t) o H A s W ∧ Asked s W (.halt_ a n) ∧ Gives t o H A s W (.halt_ a n) Q
theorem ok_stop (T : Txt K mg t) : FnOk P w K mg base CX0 6 t.fstop t.dstop ["server", "grace", "now"] (sp_stop t) := by
  have G_grace_fits : FnOk P w K mg base CX0 5 t.fgrace_fits t.dgrace_fits ["grace"] sp_grace_fits := (ok_grace_fits T).mono (by decide)
  have G_time_fits : FnOk P w K mg base CX0 5 t.ftime_fits t.dtime_fits ["now"] sp_time_fits := (ok_time_fits T).mono (by decide)
  have G_go_on : FnOk P w K mg base CX0 5 t.fgo_on t.dgo_on ["server", "now"] (sp_go_on t) := ok_go_on T
  have G_end_what_is_due : FnOk P w K mg base CX0 5 t.fend_what_is_due t.dend_what_is_due ["server"] (sp_end_what_is_due t) := (ok_end_what_is_due T).mono (by decide)
  refine T.Fstop.ok sc_stop (fun vs H Q E h => ?_) (fun cdv A outer s H vs Q E hr h => ?_)
  · obtain ⟨o, A, s, W, a, n, rfl, _⟩ := h; rfl
  · obtain ⟨o, A, s, W, a, n, rfl, R, ⟨ok, has, hW⟩, kk⟩ := h
    refine ⟨_, (pss_cons (ps_if (PW.pt (pw_or (pt_not (pt_val (pe_call G_grace_fits hr rfl T.mgrace_fits T.Fgrace_fits.kp T.bgrace_fits .nil pass0 (pa_cons (pv 1) pa_nil)))) (pw_or1 (pt_not (pt_val (pe_call G_time_fits hr rfl T.mtime_fits T.Ftime_fits.kp T.btime_fits .nil pass0 (pa_cons (pv 2) pa_nil))))))) (pss_one (ps_ret (pe_gi rfl T.cOUT_OF_RANGE))) pss_nil)
      (pss_cons (ps_expr (pe_call G_go_on hr rfl T.mgo_on T.Fgo_on.kp T.bgo_on .nil pass0 (pa_cons (pv 0) (pa_cons (pv 2) pa_nil))))
      (pss_cons (ps_if (pt_cmp (pc_isN (pe_fld (pv 0) rfl))) (pss_one (ps_ret (pe_gi rfl T.cNO_RULES))) pss_nil)
      (pss_cons (ps_if (pt_val (pe_fld (pv 0) rfl)) (pss_one (ps_ret (pe_gi rfl T.cIS_ENDING))) pss_nil)
      (pss_cons (ps_fld (pv 0) pe_bl rfl)
      (pss_cons (ps_fld (pv 0) (pe_op op_add (pe_fld (pv 0) rfl) (pv 1)) rfl)
      (pss_cons (ps_expr (pe_call G_end_what_is_due hr rfl T.mend_what_is_due T.Fend_what_is_due.kp T.bend_what_is_due .nil pass0 (pa_cons (pv 0) pa_nil)))
      (pss_one (ps_ret pe_int))))))))), ?_⟩
    obtain ⟨pok, pset, pnow, prul, pend, pask⟩ := passes_ok ok n
    have bad : (TIME < n ∨ 2 ^ 31 < a) → Q (.int (-1)) H := fun z => by
      unfold Gives at kk
      rw [halt_bad z] at kk
      exact kk.use (by show Rep _ _ _ _ _ (W ++ []); rw [List.append_nil]; exact R) rfl (Ext.refl _ _)
    refine ⟨_, rfl, a, rfl, _, rfl, ?_⟩
    cases z1 : within a 0 2147483648 with
    | false =>
      refine iteT (iteT ?_)
      refine bad (.inr ?_)
      rcases Nat.lt_or_ge 2147483648 a with y | y
      · exact y
      · rw [within_range.mpr (by omega)] at z1; cases z1
    | true =>
      have a1 := within_range.mp z1
      refine iteF ?_
      refine ⟨_, rfl, n, rfl, _, rfl, ?_⟩
      cases z2 : within n 0 TIME with
      | false =>
        refine iteT ?_
        refine bad (.inl ?_)
        rcases Nat.lt_or_ge TIME n with y | y
        · exact y
        · rw [within_time.mpr (by omega)] at z2; cases z2
      | true =>
        have nt := within_time.mp z2
        have ng : ¬ (TIME < n ∨ 2 ^ 31 < a) := by rintro (y | y); exact nt y; omega
        have hW0 : W.length + (passes s n).2.length < sizeLine := Nat.lt_of_le_of_lt (Nat.add_le_add_left (halt_wants ok ng) _) hW
        have kn : (passes s n).1.rules = none → Leaves t o H A (passes s n).1 (W ++ (passes s n).2) (Q (.int (-4))) := fun er => gives_ok (halt_none ng er) kk
        have ka : ∀ r, (passes s n).1.rules = some r → (passes s n).1.ends.isSome = true → Leaves t o H A (passes s n).1 (W ++ (passes s n).2) (Q (.int (-8))) := fun r er ee => gives_ok (halt_again ng er ee) kk
        have ki : ∀ r, (passes s n).1.rules = some r → ¬ (passes s n).1.ends.isSome = true → Leaves t o H A (endDue { (passes s n).1 with ends := some ((passes s n).1.now + a) }).1 (W ++ ((passes s n).2 ++ (endDue { (passes s n).1 with ends := some ((passes s n).1.now + a) }).2)) (Q (.int 0)) := fun r er ee => gives_then (halt_in ok ng er ee) rfl kk
        have kw : ∀ r, (passes s n).1.rules = some r → ¬ (passes s n).1.ends.isSome = true → W.length + ((passes s n).2 ++ (endDue { (passes s n).1 with ends := some ((passes s n).1.now + a) }).2).length < sizeLine := fun r er ee => le_then (halt_in ok ng er ee) rfl hW
        clear kk hW bad
        refine iteF ?_
        refine ⟨_, rfl, _, rfl, o, A, s, W, n, rfl, R, ok, by omega, hW0, fun o2 H2 A2 ep R2 ex => ?_⟩
        generalize passes s n = pp at pok pset pnow prul pend pask hW0 kn ka ki kw R2
        obtain ⟨p1, p2⟩ := pp
        dsimp only at pok pset pnow prul pend pask hW0 kn ka ki kw R2
        cases er : p1.rules with
        | none =>
          obtain ⟨dx, ge, hp, _⟩ := R2.sv
          have e1 : rv p1 A2.u = .non := by unfold rv; rw [er]
          rw [e1, ep] at hp
          refine ⟨_, rfl, A.p, _, dx, _, _, rfl, hp, T.clServer, T.nServer_rules, rfl, _, rfl, iteT ?_⟩
          exact (kn er).use R2 ep ex
        | some r =>
          obtain ⟨dx, ge, dz, hp, _, hu, ou⟩ := R2.rules er
          rw [ep] at hp
          refine ⟨_, rfl, A.p, _, dx, _, _, rfl, hp, T.clServer, T.nServer_rules, rfl, _, rfl, iteF ?_⟩
          refine ⟨_, rfl, A.p, _, dx, _, _, rfl, hp, T.clServer, T.nServer_ending, rfl, _, rfl, ?_⟩
          refine ite2 (fun z3 => ?_) (fun z3 => ?_)
          · exact (ka r er z3).use R2 ep ex
          · have hW2 := kw r er z3
            rw [List.length_append] at hW2
            refine ⟨_, rfl, A.p, _, dx, _, rfl, hp, T.clServer, T.nServer_ending, (by show 10 < 1000; decide), ?_⟩
            refine ⟨_, rfl, A.p, _, dx, _, _, rfl, upd_same, T.clServer, T.nServer_now, rfl, _, rfl, _, _, rfl, rfl, _, rfl, A.p, _, dx, _, rfl, upd_same, T.clServer, T.nServer_grace_end, (by show 10 < 1000; decide), ?_⟩
            rw [upd_upd]
            have R3 := R2.scal (s' := { p1 with ends := some (p1.now + a) }) (dx := dx) (ge := p1.now + a) rfl rfl rfl (Nat.le_refl _) (fun e q => Option.some.inj q)
            have ex3 := Ext.scal R2 (u := .ins t.CServer dx (sf (rv p1 A2.u) p1.now A2.d A2.r true (p1.now + a) p1.asked p1.answered p1.refused A2.w))
            have e1 : rv p1 A2.u = .ref A2.u := by unfold rv; rw [er]
            rw [e1, ep] at R3 ex3
            have ok3 : Ok0 { p1 with ends := some (p1.now + a) } := pok.toOk0.ending (by rw [er]; simp)
            refine ⟨_, rfl, o2, A2, _, _, r, (by rw [ep]; rfl), R3, ok3, er, (by show p1.asked < _; omega), (by rw [List.length_append]; omega), fun o4 H4 A4 ep4 R4 ex4 => ?_⟩
            refine (ki r er z3).use (A' := A4) ?_ (ep4.trans ep) ((ex.trans ex3).trans ex4)
            rw [List.append_assoc] at R4
            exact R4
end
end Fd
end
section
namespace Fd
open PySem L2 Sw55
theorem numsK {c : Cl} {o : Own} {H : Hp} {k : Nat} {l : List Addr} {m : List (Nat × Nat)} (h : Paired (WorkAt c o H k) l m) : ∃ xs : List (Addr × Nat), l.map V.ref = refs xs ∧ xs.map (·.2) = m.map (·.1) ∧ ReqNo c.CR H xs ∧ xs.length = m.length ∧
    ∀ id, Paired (WorkAt c o H k) ((xs.filter fun y => y.2 != id).map (·.1)) (m.filter fun w => w.1 != id) := by
  obtain ⟨ps, e1, e2, e3⟩ := paired_zip h
  refine ⟨ps.map fun p => (p.1, p.2.1), ?_, ?_, ?_, ?_, ?_⟩
  · unfold refs; rw [e1, List.map_map, List.map_map]; rfl
  · rw [e2, List.map_map, List.map_map]; rfl
  · intro y hy
    obtain ⟨p, hp, rfl⟩ := List.mem_map.mp hy
    obtain ⟨d1, c1, a1, h1⟩ := (e3 p hp).ob
    exact ⟨d1, c1, a1, p.2.2, h1⟩
  · rw [e2, List.length_map, List.length_map]
  · intro id
    rw [e2, filter_map_snd, List.filter_map, List.map_map]
    exact zip_paired fun p hp => e3 p (List.mem_filter.mp hp).1
theorem numsW {c : Cl} {o : Own} {H : Hp} {k : Nat} {l : List Addr} {m : List Req} (h : Paired (WaitAt c o H k) l m) : ∃ xs : List (Addr × Nat), l.map V.ref = refs xs ∧ xs.map (·.2) = m.map (·.id) ∧ ReqNo c.CR H xs ∧ xs.length = m.length ∧
    ∀ id, Paired (WaitAt c o H k) ((xs.filter fun y => y.2 != id).map (·.1)) (m.filter fun w => w.id != id) := by
  obtain ⟨ps, e1, e2, e3⟩ := paired_zip h
  refine ⟨ps.map fun p => (p.1, p.2.id), ?_, ?_, ?_, ?_, ?_⟩
  · unfold refs; rw [e1, List.map_map, List.map_map]; rfl
  · rw [e2, List.map_map, List.map_map]; rfl
  · intro y hy
    obtain ⟨p, hp, rfl⟩ := List.mem_map.mp hy
    obtain ⟨d1, a1, h1, _⟩ := (e3 p hp).ob
    exact ⟨d1, p.2.cost, a1, p.2.since, h1⟩
  · rw [e2, List.length_map, List.length_map]
  · intro id
    rw [e2, filter_map_snd, List.filter_map, List.map_map]
    exact zip_paired fun p hp => e3 p (List.mem_filter.mp hp).1
theorem refs_fst (xs : List (Addr × Nat)) : refs xs = (xs.map (·.1)).map V.ref := by unfold refs; rw [List.map_map]; rfl
theorem ReqNo.grow {C : Addr} {H H' : Hp} {xs : List (Addr × Nat)} (h : ReqNo C H xs) (g : ∀ y ∈ xs, ∀ u, H y.1 = some u → H' y.1 = some u) : ReqNo C H' xs := fun y hy => by
  obtain ⟨a, b, c, d, e⟩ := h y hy
  exact ⟨a, b, c, d, g y hy _ e⟩
theorem answers_eq (s : Server) (k id n : Nat) (b : Bytes) (h : b.length ≤ 65536) : Sw55.step s (.answers k id n b) = ofConn s k n fun _ t c => if (c.working.any fun w => w.1 == id) = false then (-5, done t) else
      (0, ({ t with answered := t.answered + 1 }.with_ { c with working := c.working.filter fun w => w.1 != id, heard := t.now }, [.answer k id b])) := by
  unfold Sw55.step
  dsimp only
  rw [if_neg (by omega)]
theorem ofConn_in1 {s : Server} {k now : Nat} {f : Rules → Server → Conn → Int × Does} {r : Rules} {c : Conn} {v : Int} {y : Does} (h : ¬ TIME < now) (er : (passes s now).1.rules = some r) (e : pick (passes s now).1.conns k = some c) (ef : f r (passes s now).1 c = (v, y)) :
    ofConn s k now f = Sw55.ok v ((passes s now).then_ fun _ => y.then_ settle) := by
  rw [ofConn_in h er e, ef]
section
variable {P : Program} {w : World} {K : PySem.W.Frag} {mg : Str → Option Value} {base : Heap} {t : Adr}
def sp_answer (t : Adr) : Sp := fun vs H Q _ => ∃ (o : Own) (A : SA) (s : Server) (W : List Want) (k id n : Nat) (da : Addr) (bs : Bytes), vs = [.ref A.p, nv k, nv id, nv n, .ref da] ∧ Rep (clOf t) o H A s W ∧ H da = some (.lst (bs.map nv)) ∧ o da = .data ∧ bs.length ≤ 65536 ∧
  Asked s W (.answers k id n bs) ∧ Gives t o H A s W (.answers k id n bs) Q
theorem ok_answer (T : Txt K mg t) : FnOk P w K mg base CX0 7 t.fanswer t.danswer ["server", "who", "number", "now", "data"] (sp_answer t) := by
  have G_refuses : FnOk P w K mg base CX0 6 t.frefuses t.drefuses ["server", "who", "now"] (sp_refuses t) := ok_refuses T
  have G_settle : FnOk P w K mg base CX0 6 t.fsettle t.dsettle ["server"] (sp_settle t) := (ok_settle T).mono (by decide)
  have G_find_request : FnOk P w K mg base CX0 6 t.ffind_request t.dfind_request ["requests", "number"] (sp_find_request t) := (ok_find_request T).mono (by decide)
  have G_without_request : FnOk P w K mg base CX0 6 t.fwithout_request t.dwithout_request ["requests", "number"] (sp_without_request t) := (ok_without_request T).mono (by decide)
  have G_want_answer : FnOk P w K mg base CX0 6 t.fwant_answer t.dwant_answer ["server", "who", "number", "data"] (sp_want_answer t) := (ok_want_answer T).mono (by decide)
  refine T.Fanswer.ok sc_answer (fun vs H Q E h => ?_) (fun cdv A outer s H vs Q E hr h => ?_)
  · obtain ⟨o, A, s, W, k, id, n, da, bs, rfl, _⟩ := h; rfl
  · obtain ⟨o, A, s, W, k, id, n, da, bs, rfl, R, hda, oda, hbs, ⟨ok, has, hW⟩, kk⟩ := h
    refine ⟨_, (pss_cons (ps_set (i := 5) sc_answer.nd rfl (Or.inl rfl) (pe_call G_refuses hr rfl T.mrefuses T.Frefuses.kp T.brefuses .nil pass0 (pa_cons (pv 0) (pa_cons (pv 1) (pa_cons (pv 3) pa_nil)))))
      (pss_cons (ps_if (pt_cmpR op_lt (pv 5) pe_int (nomark _)) (pss_one (ps_ret (pv 5))) pss_nil)
      (pss_cons (ps_set (i := 6) sc_answer.nd rfl (Or.inl rfl) (pe_dget (hu_of hr) (pe_fld (pv 0) rfl) (pv 1) (fun _ _ => rfl)))
      (pss_cons (ps_if (pt_cmp (pc_isN (pe_call G_find_request hr rfl T.mfind_request T.Ffind_request.kp T.bfind_request .nil pass0 (pa_cons (pe_fld (pv 6) rfl) (pa_cons (pv 2) pa_nil))))) (pss_one (ps_ret (pe_gi rfl T.cNOT_WORKED_AT))) pss_nil)
      (pss_cons (ps_fld (pv 6) (pe_call G_without_request hr rfl T.mwithout_request T.Fwithout_request.kp T.bwithout_request .nil pass0 (pa_cons (pe_fld (pv 6) rfl) (pa_cons (pv 2) pa_nil))) rfl)
      (pss_cons (ps_fld (pv 6) (pe_fld (pv 0) rfl) rfl)
      (pss_cons (ps_expr (pe_call G_want_answer hr rfl T.mwant_answer T.Fwant_answer.kp T.bwant_answer .nil pass0 (pa_cons (pv 0) (pa_cons (pv 1) (pa_cons (pv 2) (pa_cons (pv 4) pa_nil))))))
      (pss_cons (ps_expr (pe_call G_settle hr rfl T.msettle T.Fsettle.kp T.bsettle .nil pass0 (pa_cons (pv 0) pa_nil)))
      (pss_one (ps_ret pe_int)))))))))), ?_⟩
    obtain ⟨pok, pset, pnow, prul, pend, pask⟩ := passes_ok ok n
    have es := answers_eq s k id n bs hbs
    refine ⟨_, rfl, _, rfl, _, rfl, o, A, s, W, k, n, rfl, R, ok, by omega, fun nt => ?_, fun lt => ?_, fun nt e => ?_, fun c nt e => ?_⟩
    · rw [es] at hW
      exact Nat.lt_of_le_of_lt (Nat.add_le_add_left (ofConn_wants ok nt) _) hW
    · unfold Gives at kk
      rw [es, ofConn_late lt] at kk
      refine ⟨_, rfl, _, _, rfl, rfl, _, rfl, iteT ⟨_, rfl, ?_⟩⟩
      exact kk.use (by show Rep _ _ _ _ _ (W ++ []); rw [List.append_nil]; exact R) rfl (Ext.refl _ _)
    · have k2 := gives_ok (es.trans (ofConn_out nt e)) kk
      intro o2 H2 A2 ep R2 ex
      refine ⟨_, rfl, _, _, rfl, rfl, _, rfl, iteT ⟨_, rfl, ?_⟩⟩
      exact k2.use R2 ep ex
    · obtain ⟨r, er⟩ := in_rules pok.toOk0 e
      intro o2 H2 A2 ep R2 ex
      obtain ⟨hc, hk⟩ := pick_some e
      subst hk
      have k5 : id ∉ c.working.map (·.1) → Leaves t o H A (passes s n).1 (W ++ (passes s n).2) (Q (.int (-5))) := fun h1 => by
        have e1 : (c.working.any fun w => w.1 == id) = false := by rw [any_work]; exact decide_eq_false h1
        have := gives_then (es.trans (ofConn_in1 nt er e (v := -5) (y := done (passes s n).1) (by rw [if_pos e1]))) (y := ((passes s n).1, [])) (by show Does.then_ ((passes s n).1, []) settle = _; rw [then_nil, settle_noop pok pset]) kk
        rw [List.append_nil] at this
        exact this
      have k0 : id ∈ c.working.map (·.1) → Leaves t o H A (settle ({ (passes s n).1 with answered := (passes s n).1.answered + 1 }.with_ { c with working := c.working.filter fun w => w.1 != id, heard := (passes s n).1.now })).1 (W ++ ((passes s n).2 ++ ([.answer c.number id bs] ++ (settle ({ (passes s n).1 with answered := (passes s n).1.answered + 1 }.with_ { c with working := c.working.filter fun w => w.1 != id, heard := (passes s n).1.now })).2))) (Q (.int 0)) := fun h1 => by
        have e1 : ¬ (c.working.any fun w => w.1 == id) = false := by rw [any_work, decide_eq_true h1]; simp
        exact gives_then (es.trans (ofConn_in1 nt er e (v := 0) (y := ({ (passes s n).1 with answered := (passes s n).1.answered + 1 }.with_ { c with working := c.working.filter fun w => w.1 != id, heard := (passes s n).1.now }, [.answer c.number id bs])) (by rw [if_neg e1]))) (y := ((Sw55.settle _).1, [.answer c.number id bs] ++ (Sw55.settle _).2)) (then_pair _ _ _) kk
      have kw : id ∈ c.working.map (·.1) → W.length + ((passes s n).2 ++ ([Want.answer c.number id bs] ++ (settle ({ (passes s n).1 with answered := (passes s n).1.answered + 1 }.with_ { c with working := c.working.filter fun w => w.1 != id, heard := (passes s n).1.now })).2)).length < sizeLine := fun h1 => by
        have e1 : ¬ (c.working.any fun w => w.1 == id) = false := by rw [any_work, decide_eq_true h1]; simp
        exact le_then (es.trans (ofConn_in1 nt er e (v := 0) (y := ({ (passes s n).1 with answered := (passes s n).1.answered + 1 }.with_ { c with working := c.working.filter fun w => w.1 != id, heard := (passes s n).1.now }, [.answer c.number id bs])) (by rw [if_neg e1]))) (y := ((Sw55.settle _).1, [.answer c.number id bs] ++ (Sw55.settle _).2)) (then_pair _ _ _) hW
      clear kk hW es
      generalize passes s n = pp at pok pset pnow prul pend pask e er hc R2 k5 k0 kw
      obtain ⟨p1, p2⟩ := pp
      dsimp only at pok pset pnow prul pend pask e er hc R2 k5 k0 kw
      refine ⟨_, rfl, _, _, rfl, rfl, _, rfl, iteF ?_⟩
      obtain ⟨dx, ge, hp, _⟩ := R2.sv
      rw [ep] at hp
      obtain ⟨g, hg, z, eg⟩ := R2.look pok.srt hc
      obtain ⟨dy, ch, lo, hga, hlv⟩ := z.ob
      obtain ⟨xs, x1, x2, x3, x4, x5⟩ := numsK z.kr
      have hkl := z.kl
      rw [x1] at hkl
      have hh := held_le pok.toOk0 hc
      have xl : xs.length < sizeLine := by rw [x4]; show _ < 16777216; omega
      refine ⟨_, rfl, A.p, _, dx, _, _, rfl, hp, T.clServer, T.nServer_inside, rfl, _, rfl, A2.d, _, rfl, R2.dget eg, ?_⟩
      refine ⟨_, rfl, g.a, _, dy, _, _, rfl, hga, T.clGuest, T.nGuest_working, rfl, _, rfl, g.ka, id, xs, rfl, hkl, x3, fun v hv => ⟨_, rfl, ?_⟩⟩
      rw [x2] at hv
      refine ite2 (fun q => ?_) (fun q => ?_)
      · have q1 := hv.mp (of_decide_eq_true q)
        exact (k5 q1).use R2 ep ex
      · have q1 : id ∈ c.working.map (·.1) := by
          by_cases y : id ∈ c.working.map (·.1)
          · exact y
          · exact absurd (decide_eq_true (hv.mpr y)) q
        have k0 := k0 q1
        have kw := kw q1
        simp only [List.length_append, List.length_singleton] at kw
        refine ⟨_, rfl, g.a, _, dy, _, _, rfl, hga, T.clGuest, T.nGuest_working, rfl, _, rfl, g.ka, id, xs, rfl, hkl, x3, xl, fun D hD => ?_⟩
        have nDg : g.a ≠ D := ne_of_none hga hD
        have npD : A.p ≠ D := ne_of_none hp hD
        have npg : A.p ≠ g.a := by rw [← ep]; exact ne_role R2.os z.oa (by intro q; cases q)
        refine ⟨_, rfl, g.a, t.CGuest, dy, gf c.from_ c.weight c.credit g.wa g.ka c.heard ch lo, rfl, (by rw [upd_ne nDg]; exact hga), T.clGuest, T.nGuest_working, (by show 8 < 1000; decide), ?_⟩
        refine ⟨_, rfl, A.p, t.CServer, dx, _, nv p1.now, rfl, (by rw [upd_ne npg, upd_ne npD]; exact hp), T.clServer, T.nServer_now, rfl, _, rfl, g.a, _, dy, _, rfl, upd_same, T.clGuest, T.nGuest_heard_at, (by show 8 < 1000; decide), ?_⟩
        rw [upd_upd]
        let x' : Conn := { c with working := c.working.filter fun w => w.1 != id, heard := p1.now }
        let g' : GA := { g with ka := D, kq := (xs.filter fun y => y.2 != id).map (·.1) }
        obtain ⟨H3, eH3⟩ : ∃ H3, H3 = upd (upd H2 D (.lst (refs (xs.filter fun y => y.2 != id)))) g.a (.ins t.CGuest dy (gf c.from_ c.weight c.credit g.wa D p1.now ch lo)) := ⟨_, rfl⟩
        have old3 : ∀ {b : Addr} {u : HO}, H2 b = some u → b ≠ g.a → H3 b = some u := fun hb n => by rw [eH3, upd_ne n, upd_ne (ne_of_none hb hD)]; exact hb
        have oo : ∀ {b : Addr} {u : HO}, H2 b = some u → setR o2 D (.work c.number) b = o2 b := fun hb => setR_ne (ne_of_none hb hD)
        have h3D : H3 D = some (.lst (refs (xs.filter fun y => y.2 != id))) := by rw [eH3, upd_ne nDg.symm]; exact upd_same
        have z3 : GuestAt (clOf t) (setR o2 D (.work c.number)) H3 p1.rules p1.now g' x' := by
          refine ⟨z.nm, ⟨dy, ch, lo, by rw [eH3]; exact upd_same, hlv⟩, (oo hga).trans z.oa, old3 z.wl (ne_role z.ow z.oa (by intro q; cases q)), (oo z.wl).trans z.ow, ?_, setR_same, ?_, ?_⟩
          · rw [h3D, refs_fst]
          · exact paired_imp z.wr fun a q _ _ y => y.keepR fun b u hb r => ⟨old3 hb (fun e => by rw [e, z.oa] at r; rcases r with r | r <;> cases r), oo hb⟩
          · exact paired_imp (x5 id) fun a q _ _ y => y.keepR fun b u hb r => ⟨old3 hb (fun e => by rw [e, z.oa] at r; cases r), oo hb⟩
        have R3 := R2.guest pok.srt (H' := H3) (o' := setR o2 D (.work c.number)) (g' := g') hg hc z (x' := x') rfl rfl (fun b u hb no nk => ⟨old3 hb (fun y => nk (by rw [y, z.oa]; rfl)), oo hb⟩) (fun b nb => ?_) z3
        · have ex3 : Ext o2 H2 (setR o2 D (.work c.number)) H3 := fun b u hb r => ⟨old3 hb (fun y => by rw [y, z.oa] at r; rcases r with r | r <;> cases r), oo hb⟩
          obtain ⟨hda2, oda2⟩ := ex _ _ hda (.inr oda)
          have oda3 : o2 da = .data := oda2.trans oda
          have hda3 : H3 da = some (.lst (bs.map nv)) := old3 hda2 (ne_role oda3 z.oa (by intro q; cases q))
          have nda : da ≠ A2.p := ne_role oda3 R2.os (by intro q; cases q)
          subst eH3
          refine ⟨_, rfl, _, rfl, _, rfl, _, rfl, setR o2 D (.work c.number), _, p1.with_ x', W ++ p2, c.number, id, da, bs, (by show _ = [V.ref A2.p, _, _, _]; rw [ep]; rfl), R3, (by rw [List.length_append]; omega), hda3, nda, by omega, fun y4 o4 H4 R4 kp4 => ?_⟩
          refine ⟨_, rfl, o4, _, ({ p1 with answered := p1.answered + 1 }.with_ x'), _, r, (by show _ = [V.ref A2.p]; rw [ep]; rfl), R4, answer_mid pok hc id (p1.answered + 1), er, (by show p1.asked < _; omega), ?_, fun o5 H5 A5 ep5 R5 ex5 => ?_⟩
          · simp only [List.length_append, List.length_singleton]
            have kw2 : W.length + (p2.length + (1 + (Sw55.settle ({ p1 with answered := p1.answered + 1 }.with_ x')).2.length)) < sizeLine := kw
            show _ + (Sw55.settle ({ p1 with answered := p1.answered + 1 }.with_ x')).2.length < _
            omega
          · refine k0.use (A' := A5) ?_ (ep5.trans ep) (((ex.trans ex3).trans kp4.ext).trans ex5)
            rw [List.append_assoc, List.append_assoc] at R5
            exact R5
        · by_cases e1 : b = D
          · rw [e1, h3D]; intro q; cases q
          · rw [setR_ne e1] at nb
            rw [eH3]
            exact upd_dom (upd_dom (R2.dom b nb))
end
end Fd
end
section
namespace Fd
open PySem L2 Sw55
theorem ite_joinP {c : Prop} [Decidable c] {A B : Prop} (pc F : Prop) (ha : c → (pc → F) → A) (hb : ¬ c → (pc → F) → B) (h : pc → F) : if c then A else B := ite2 (fun q => ha q h) (fun q => hb q h)
theorem drops_eq (s : Server) (k id n : Nat) : Sw55.step s (.drops k id n) = ofConn s k n fun _ t c0 => if ((heardNow t c0).working.any fun w => w.1 == id) = true then (1, (t.with_ { heardNow t c0 with working := (heardNow t c0).working.filter fun w => w.1 != id }, [.cancel k id]))
    else if ((heardNow t c0).waiting.any fun q => q.id == id) = true then (0, done (t.with_ { heardNow t c0 with waiting := (heardNow t c0).waiting.filter fun q => q.id != id })) else (-5, done t) := by
  unfold Sw55.step
  dsimp only
def dropC (t : Server) (c : Conn) (id : Nat) : Conn := { heardNow t c with working := c.working.filter (fun w => w.1 != id), waiting := c.waiting.filter fun q => q.id != id }
section
variable {P : Program} {w : World} {K : PySem.W.Frag} {mg : Str → Option Value} {base : Heap} {t : Adr}
def sp_drop (t : Adr) : Sp := fun vs H Q _ => ∃ (o : Own) (A : SA) (s : Server) (W : List Want) (k id n : Nat), vs = [.ref A.p, nv k, nv id, nv n] ∧ Rep (clOf t) o H A s W ∧ Asked s W (.drops k id n) ∧ Gives t o H A s W (.drops k id n) Q
theorem ok_drop (T : Txt K mg t) : FnOk P w K mg base CX0 7 t.fdrop t.ddrop ["server", "who", "number", "now"] (sp_drop t) := by
  have G_refuses : FnOk P w K mg base CX0 6 t.frefuses t.drefuses ["server", "who", "now"] (sp_refuses t) := ok_refuses T
  have G_settle : FnOk P w K mg base CX0 6 t.fsettle t.dsettle ["server"] (sp_settle t) := (ok_settle T).mono (by decide)
  have G_find_request : FnOk P w K mg base CX0 6 t.ffind_request t.dfind_request ["requests", "number"] (sp_find_request t) := (ok_find_request T).mono (by decide)
  have G_without_request : FnOk P w K mg base CX0 6 t.fwithout_request t.dwithout_request ["requests", "number"] (sp_without_request t) := (ok_without_request T).mono (by decide)
  have G_want_cancel : FnOk P w K mg base CX0 6 t.fwant_cancel t.dwant_cancel ["server", "who", "number"] (sp_want_cancel t) := (ok_want_cancel T).mono (by decide)
  refine T.Fdrop.ok sc_drop (fun vs H Q E h => ?_) (fun cdv A outer s H vs Q E hr h => ?_)
  · obtain ⟨o, A, s, W, k, id, n, rfl, _⟩ := h; rfl
  · obtain ⟨o, A, s, W, k, id, n, rfl, R, ⟨ok, has, hW⟩, kk⟩ := h
    refine ⟨_, (pss_cons (ps_set (i := 4) sc_drop.nd rfl (Or.inl rfl) (pe_call G_refuses hr rfl T.mrefuses T.Frefuses.kp T.brefuses .nil pass0 (pa_cons (pv 0) (pa_cons (pv 1) (pa_cons (pv 3) pa_nil)))))
      (pss_cons (ps_if (pt_cmpR op_lt (pv 4) pe_int (nomark _)) (pss_one (ps_ret (pv 4))) pss_nil)
      (pss_cons (ps_set (i := 5) sc_drop.nd rfl (Or.inl rfl) (pe_dget (hu_of hr) (pe_fld (pv 0) rfl) (pv 1) (fun _ _ => rfl)))
      (pss_cons (ps_set (i := 6) sc_drop.nd rfl (Or.inl rfl) (pe_cmp (pc_notN (pe_call G_find_request hr rfl T.mfind_request T.Ffind_request.kp T.bfind_request .nil pass0 (pa_cons (pe_fld (pv 5) rfl) (pa_cons (pv 2) pa_nil))))))
      (pss_cons (ps_if (PW.pt (pw_and (pt_not (pt_val (pv 6))) (pw_and1 (pt_cmp (pc_isN (pe_call G_find_request hr rfl T.mfind_request T.Ffind_request.kp T.bfind_request .nil pass0 (pa_cons (pe_fld (pv 5) rfl) (pa_cons (pv 2) pa_nil)))))))) (pss_one (ps_ret (pe_gi rfl T.cNOT_WORKED_AT))) pss_nil)
      (pss_cons (ps_fld (pv 5) (pe_fld (pv 0) rfl) rfl)
      (pss_cons (ps_fld (pv 5) (pe_call G_without_request hr rfl T.mwithout_request T.Fwithout_request.kp T.bwithout_request .nil pass0 (pa_cons (pe_fld (pv 5) rfl) (pa_cons (pv 2) pa_nil))) rfl)
      (pss_cons (ps_fld (pv 5) (pe_call G_without_request hr rfl T.mwithout_request T.Fwithout_request.kp T.bwithout_request .nil pass0 (pa_cons (pe_fld (pv 5) rfl) (pa_cons (pv 2) pa_nil))) rfl)
      (pss_cons (ps_if (pt_val (pv 6)) (pss_one (ps_expr (pe_call G_want_cancel hr rfl T.mwant_cancel T.Fwant_cancel.kp T.bwant_cancel .nil pass0 (pa_cons (pv 0) (pa_cons (pv 1) (pa_cons (pv 2) pa_nil)))))) pss_nil)
      (pss_cons (ps_expr (pe_call G_settle hr rfl T.msettle T.Fsettle.kp T.bsettle .nil pass0 (pa_cons (pv 0) pa_nil)))
      (pss_one (ps_ret (pe_ifExp (pt_val (pv 6)) pe_int pe_int))))))))))))), ?_⟩
    obtain ⟨pok, pset, pnow, prul, pend, pask⟩ := passes_ok ok n
    have es := drops_eq s k id n
    refine ⟨_, rfl, _, rfl, _, rfl, o, A, s, W, k, n, rfl, R, ok, by omega, fun nt => ?_, fun lt => ?_, fun nt e => ?_, fun c nt e => ?_⟩
    · rw [es] at hW
      exact Nat.lt_of_le_of_lt (Nat.add_le_add_left (ofConn_wants ok nt) _) hW
    · unfold Gives at kk
      rw [es, ofConn_late lt] at kk
      refine ⟨_, rfl, _, _, rfl, rfl, _, rfl, iteT ⟨_, rfl, ?_⟩⟩
      exact kk.use (by show Rep _ _ _ _ _ (W ++ []); rw [List.append_nil]; exact R) rfl (Ext.refl _ _)
    · have k2 := gives_ok (es.trans (ofConn_out nt e)) kk
      intro o2 H2 A2 ep R2 ex
      refine ⟨_, rfl, _, _, rfl, rfl, _, rfl, iteT ⟨_, rfl, ?_⟩⟩
      exact k2.use R2 ep ex
    · obtain ⟨r, er⟩ := in_rules pok.toOk0 e
      intro o2 H2 A2 ep R2 ex
      obtain ⟨hc, hk⟩ := pick_some e
      subst hk
      have ids := (pok.cok c hc).ids
      have k5 : id ∉ c.working.map (·.1) → id ∉ c.waiting.map (·.id) → Leaves t o H A (passes s n).1 (W ++ (passes s n).2) (Q (.int (-5))) := fun h1 h2 => by
        have e1 : ¬ ((heardNow (passes s n).1 c).working.any fun w => w.1 == id) = true := by rw [any_work, decide_eq_false (show id ∉ (heardNow (passes s n).1 c).working.map (·.1) from h1)]; simp
        have e2 : ¬ ((heardNow (passes s n).1 c).waiting.any fun q => q.id == id) = true := by rw [any_wait, decide_eq_false (show id ∉ (heardNow (passes s n).1 c).waiting.map (·.id) from h2)]; simp
        have := gives_then (es.trans (ofConn_in1 nt er e (v := -5) (y := done (passes s n).1) (by rw [if_neg e1, if_neg e2]))) (y := ((passes s n).1, [])) (by show Does.then_ ((passes s n).1, []) Sw55.settle = _; rw [then_nil, settle_noop pok pset]) kk
        rw [List.append_nil] at this
        exact this
      have st1 : id ∈ c.working.map (·.1) → Sw55.step s (.drops c.number id n) = Sw55.ok 1 ((passes s n).then_ fun _ => Does.then_ ((passes s n).1.with_ (dropC (passes s n).1 c id), [.cancel c.number id]) Sw55.settle) := fun h1 => by
        have e1 : ((heardNow (passes s n).1 c).working.any fun w => w.1 == id) = true := by rw [any_work, decide_eq_true (show id ∈ (heardNow (passes s n).1 c).working.map (·.1) from h1)]
        have e3 : ({ heardNow (passes s n).1 c with working := (heardNow (passes s n).1 c).working.filter fun w => w.1 != id } : Conn) = dropC (passes s n).1 c id := by
          unfold dropC
          rw [drop_work ids h1]
          rfl
        rw [← e3]
        exact es.trans (ofConn_in1 nt er e (by rw [if_pos e1]))
      have st0 : id ∉ c.working.map (·.1) → id ∈ c.waiting.map (·.id) → Sw55.step s (.drops c.number id n) = Sw55.ok 0 ((passes s n).then_ fun _ => Does.then_ ((passes s n).1.with_ (dropC (passes s n).1 c id), []) Sw55.settle) := fun h1 h2 => by
        have e1 : ¬ ((heardNow (passes s n).1 c).working.any fun w => w.1 == id) = true := by rw [any_work, decide_eq_false (show id ∉ (heardNow (passes s n).1 c).working.map (·.1) from h1)]; simp
        have e2 : ((heardNow (passes s n).1 c).waiting.any fun q => q.id == id) = true := by rw [any_wait, decide_eq_true (show id ∈ (heardNow (passes s n).1 c).waiting.map (·.id) from h2)]
        have e3 : ({ heardNow (passes s n).1 c with waiting := (heardNow (passes s n).1 c).waiting.filter fun q => q.id != id } : Conn) = dropC (passes s n).1 c id := by
          unfold dropC
          rw [drop_wait h1]
          rfl
        rw [← e3]
        exact es.trans (ofConn_in1 nt er e (by rw [if_neg e1, if_pos e2]; rfl))
      have kY : id ∈ c.working.map (·.1) → Leaves t o H A (Sw55.settle ((passes s n).1.with_ (dropC (passes s n).1 c id))).1 (W ++ ((passes s n).2 ++ ([.cancel c.number id] ++ (Sw55.settle ((passes s n).1.with_ (dropC (passes s n).1 c id))).2))) (Q (.int 1)) := fun h1 =>
        gives_then (st1 h1) (y := ((Sw55.settle _).1, [.cancel c.number id] ++ (Sw55.settle _).2)) (then_pair _ _ _) kk
      have wY : id ∈ c.working.map (·.1) → W.length + ((passes s n).2 ++ ([Want.cancel c.number id] ++ (Sw55.settle ((passes s n).1.with_ (dropC (passes s n).1 c id))).2)).length < sizeLine := fun h1 =>
        le_then (st1 h1) (y := ((Sw55.settle _).1, [.cancel c.number id] ++ (Sw55.settle _).2)) (then_pair _ _ _) hW
      have kN : id ∉ c.working.map (·.1) → id ∈ c.waiting.map (·.id) → Leaves t o H A (Sw55.settle ((passes s n).1.with_ (dropC (passes s n).1 c id))).1 (W ++ ((passes s n).2 ++ (Sw55.settle ((passes s n).1.with_ (dropC (passes s n).1 c id))).2)) (Q (.int 0)) := fun h1 h2 =>
        gives_then (st0 h1 h2) (y := Sw55.settle _) (then_nil _ _) kk
      have wN : id ∉ c.working.map (·.1) → id ∈ c.waiting.map (·.id) → W.length + ((passes s n).2 ++ (Sw55.settle ((passes s n).1.with_ (dropC (passes s n).1 c id))).2).length < sizeLine := fun h1 h2 =>
        le_then (st0 h1 h2) (y := Sw55.settle _) (then_nil _ _) hW
      clear kk hW es st1 st0
      generalize passes s n = pp at pok pset pnow prul pend pask e er hc R2 k5 kY wY kN wN
      obtain ⟨p1, p2⟩ := pp
      dsimp only at pok pset pnow prul pend pask e er hc R2 k5 kY wY kN wN
      refine ⟨_, rfl, _, _, rfl, rfl, _, rfl, iteF ?_⟩
      obtain ⟨dx, ge, hp, _⟩ := R2.sv
      rw [ep] at hp
      obtain ⟨g, hg, z, eg⟩ := R2.look pok.srt hc
      obtain ⟨dy, ch, lo, hga, hlv⟩ := z.ob
      obtain ⟨xs, x1, x2, x3, x4, x5⟩ := numsK z.kr
      obtain ⟨ys, y1, y2, y3, y4, y5⟩ := numsW z.wr
      have hkl := z.kl
      rw [x1] at hkl
      have hwl := z.wl
      rw [y1] at hwl
      have hh := held_le pok.toOk0 hc
      have xl : xs.length < sizeLine := by rw [x4]; show _ < 16777216; omega
      have yl : ys.length < sizeLine := by rw [y4]; show _ < 16777216; omega
      refine ⟨_, rfl, A.p, _, dx, _, _, rfl, hp, T.clServer, T.nServer_inside, rfl, _, rfl, A2.d, _, rfl, R2.dget eg, ?_⟩
      refine ⟨_, rfl, g.a, _, dy, _, _, rfl, hga, T.clGuest, T.nGuest_working, rfl, _, rfl, g.ka, id, xs, rfl, hkl, x3, fun v hv => ?_⟩
      rw [x2] at hv
      have eb : (!decide (v = V.non)) = decide (id ∈ c.working.map (·.1)) := by
        by_cases q : id ∈ c.working.map (·.1)
        · rw [decide_eq_true q, decide_eq_false (fun y => hv.mp y q)]; rfl
        · rw [decide_eq_false q, decide_eq_true (hv.mpr q)]; rfl
      rw [eb]
      generalize hb : decide (id ∈ c.working.map (·.1)) = b
      refine ⟨_, rfl, _, rfl, ?_⟩
      apply ite_joinP (id ∈ c.working.map (·.1) ∨ id ∈ c.waiting.map (·.id))
      case hb =>
        intro nb f
        refine iteF (f (.inl ?_))
        cases b with
        | true => exact of_decide_eq_true hb
        | false => exact absurd rfl nb
      case ha =>
        intro nb f
        have hb0 : b = false := by cases b; rfl; cases nb
        have h1 : id ∉ c.working.map (·.1) := of_decide_eq_false (hb.trans hb0)
        refine ⟨_, rfl, g.a, _, dy, _, _, rfl, hga, T.clGuest, T.nGuest_waiting, rfl, _, rfl, g.wa, id, ys, rfl, hwl, y3, fun v2 hv2 => ⟨_, rfl, ?_⟩⟩
        rw [y2] at hv2
        refine ite2 (fun q => ?_) (fun q => ?_)
        · exact (k5 h1 (hv2.mp (of_decide_eq_true q))).use R2 ep ex
        · refine f (.inr ?_)
          by_cases y : id ∈ c.waiting.map (·.id)
          · exact y
          · exact absurd (decide_eq_true (hv2.mpr y)) q
      case h =>
        intro pc
        have npg : A.p ≠ g.a := by rw [← ep]; exact ne_role R2.os z.oa (by intro q; cases q)
        have nkg : g.ka ≠ g.a := ne_role z.ok z.oa (by intro q; cases q)
        have nwg : g.wa ≠ g.a := ne_role z.ow z.oa (by intro q; cases q)
        refine ⟨_, rfl, A.p, _, dx, _, _, rfl, hp, T.clServer, T.nServer_now, rfl, _, rfl, g.a, _, dy, _, rfl, hga, T.clGuest, T.nGuest_heard_at, (by show 8 < 1000; decide), ?_⟩
        have rq3 : ∀ {u : HO}, ReqNo t.CRequest (upd H2 g.a u) xs := fun {u} => x3.grow fun y hy u' hu' => by
          rw [upd_ne]
          · exact hu'
          · intro e2
            obtain ⟨_, _, _, _, e3⟩ := x3 y hy
            rw [e2, hga] at e3
            have e4 := Option.some.inj e3
            injection e4 with e5 e6 e7
            exact absurd (congrArg List.length e7) (by show 8 ≠ 4; decide)
        refine ⟨_, rfl, g.a, t.CGuest, dy, gf c.from_ c.weight c.credit g.wa g.ka p1.now ch lo, V.ref g.ka, rfl, upd_same, T.clGuest, T.nGuest_working, rfl, _, rfl, g.ka, id, xs, rfl, (by rw [upd_ne nkg]; exact hkl), rq3, xl, fun D hD => ?_⟩
        have nDg : g.a ≠ D := ne_of_none upd_same hD
        have hD2 : H2 D = none := by rw [upd_ne nDg.symm] at hD; exact hD
        refine ⟨_, rfl, g.a, t.CGuest, dy, gf c.from_ c.weight c.credit g.wa g.ka p1.now ch lo, rfl, (by rw [upd_ne nDg]; exact upd_same), T.clGuest, T.nGuest_working, (by show 8 < 1000; decide), ?_⟩
        have old1 : ∀ {b : Addr} {u u1 u2 : HO}, H2 b = some u → b ≠ g.a → (upd (upd (upd H2 g.a u1) D (.lst (refs (xs.filter fun y => y.2 != id)))) g.a u2) b = some u := fun hb n => by
          rw [upd_ne n, upd_ne (ne_of_none hb hD2), upd_ne n]; exact hb
        have rqy : ∀ {u1 u2 : HO}, ReqNo t.CRequest (upd (upd (upd H2 g.a u1) D (.lst (refs (xs.filter fun y => y.2 != id)))) g.a u2) ys := fun {u1 u2} => y3.grow fun y hy u' hu' => old1 hu' (fun e2 => by
          obtain ⟨_, _, _, _, e3⟩ := y3 y hy
          rw [e2, hga] at e3
          have e4 := Option.some.inj e3
          injection e4 with e5 e6 e7
          exact absurd (congrArg List.length e7) (by show 8 ≠ 4; decide))
        refine ⟨_, rfl, g.a, t.CGuest, dy, gf c.from_ c.weight c.credit g.wa D p1.now ch lo, V.ref g.wa, rfl, upd_same, T.clGuest, T.nGuest_waiting, rfl, _, rfl, g.wa, id, ys, rfl, old1 hwl nwg, rqy, yl, fun D2 hD2' => ?_⟩
        have nD2g : g.a ≠ D2 := ne_of_none upd_same hD2'
        have hD3 := hD2'
        rw [upd_ne nD2g.symm] at hD3
        have nDD : D ≠ D2 := ne_of_none upd_same hD3
        rw [upd_ne nDD.symm, upd_ne nD2g.symm] at hD3
        refine ⟨_, rfl, g.a, t.CGuest, dy, gf c.from_ c.weight c.credit g.wa D p1.now ch lo, rfl, (by rw [upd_ne nD2g]; exact upd_same), T.clGuest, T.nGuest_waiting, (by show 8 < 1000; decide), ?_⟩
        let g' : GA := { g with ka := D, wa := D2, kq := (xs.filter fun y => y.2 != id).map (·.1), wq := (ys.filter fun y => y.2 != id).map (·.1) }
        obtain ⟨H3, eH3⟩ : ∃ H3, H3 = upd (upd (upd (upd (upd H2 g.a (.ins t.CGuest dy (gf c.from_ c.weight c.credit g.wa g.ka p1.now ch lo))) D (.lst (refs (xs.filter fun y => y.2 != id)))) g.a (.ins t.CGuest dy (gf c.from_ c.weight c.credit g.wa D p1.now ch lo))) D2 (.lst (refs (ys.filter fun y => y.2 != id)))) g.a (.ins t.CGuest dy (gf c.from_ c.weight c.credit D2 D p1.now ch lo)) := ⟨_, rfl⟩
        have old3 : ∀ {b : Addr} {u : HO}, H2 b = some u → b ≠ g.a → H3 b = some u := fun hb n => by rw [eH3, upd_ne n, upd_ne (ne_of_none hb hD3)]; exact old1 hb n
        have oo : ∀ {b : Addr} {u : HO}, H2 b = some u → setR (setR o2 D (.work c.number)) D2 (.wait c.number) b = o2 b := fun hb => by rw [setR_ne (ne_of_none hb hD3), setR_ne (ne_of_none hb hD2)]
        have h3D : H3 D = some (.lst (refs (xs.filter fun y => y.2 != id))) := by rw [eH3, upd_ne nDg.symm, upd_ne nDD, upd_ne nDg.symm]; exact upd_same
        have h3D2 : H3 D2 = some (.lst (refs (ys.filter fun y => y.2 != id))) := by rw [eH3, upd_ne nD2g.symm]; exact upd_same
        have z3 : GuestAt (clOf t) (setR (setR o2 D (.work c.number)) D2 (.wait c.number)) H3 p1.rules p1.now g' (dropC p1 c id) := by
          refine ⟨z.nm, ⟨dy, ch, lo, by rw [eH3]; exact upd_same, hlv⟩, (oo hga).trans z.oa, ?_, setR_same, ?_, (by show setR _ _ _ D = _; rw [setR_ne nDD]; exact setR_same), ?_, ?_⟩
          · rw [h3D2, refs_fst]
          · rw [h3D, refs_fst]
          · exact paired_imp (y5 id) fun a q _ _ y => y.keepR fun b u hb r => ⟨old3 hb (fun e => by rw [e, z.oa] at r; rcases r with r | r <;> cases r), oo hb⟩
          · exact paired_imp (x5 id) fun a q _ _ y => y.keepR fun b u hb r => ⟨old3 hb (fun e => by rw [e, z.oa] at r; cases r), oo hb⟩
        have R3 := R2.guest pok.srt (H' := H3) (o' := setR (setR o2 D (.work c.number)) D2 (.wait c.number)) (g' := g') hg hc z (x' := dropC p1 c id) rfl rfl (fun b u hb no nk => ⟨old3 hb (fun y => nk (by rw [y, z.oa]; rfl)), oo hb⟩) (fun b nb => ?_) z3
        · have ex3 : Ext o2 H2 (setR (setR o2 D (.work c.number)) D2 (.wait c.number)) H3 := fun b u hb r => ⟨old3 hb (fun y => by rw [y, z.oa] at r; rcases r with r | r <;> cases r), oo hb⟩
          have mid : Ok0 (p1.with_ (dropC p1 c id)) := drop_mid pok hc id
          subst eH3
          refine ⟨_, rfl, _, rfl, ?_⟩
          cases b with
          | true =>
            have h1 : id ∈ c.working.map (·.1) := of_decide_eq_true hb
            have kY := kY h1
            have wY := wY h1
            simp only [List.length_append, List.length_singleton] at wY
            refine iteT ?_
            refine ⟨_, rfl, _, rfl, _, rfl, setR (setR o2 D (.work c.number)) D2 (.wait c.number), _, p1.with_ (dropC p1 c id), W ++ p2, c.number, id, (by show _ = [V.ref A2.p, _, _]; rw [ep]; rfl), R3, (by rw [List.length_append]; omega), fun y4 o4 H4 R4 kp4 => ?_⟩
            refine ⟨_, rfl, o4, _, _, _, r, (by show _ = [V.ref A2.p]; rw [ep]; rfl), R4, mid, er, (by show p1.asked < _; omega), (by simp only [List.length_append, List.length_singleton]; omega), fun o5 H5 A5 ep5 R5 ex5 => ?_⟩
            refine ⟨_, rfl, _, rfl, iteT ?_⟩
            refine kY.use (A' := A5) ?_ (ep5.trans ep) (((ex.trans ex3).trans kp4.ext).trans ex5)
            rw [List.append_assoc, List.append_assoc] at R5
            exact R5
          | false =>
            have h1 : id ∉ c.working.map (·.1) := of_decide_eq_false hb
            have h2 : id ∈ c.waiting.map (·.id) := pc.elim (fun y => absurd y h1) fun y => y
            have kN := kN h1 h2
            have wN := wN h1 h2
            simp only [List.length_append] at wN
            refine iteF ?_
            refine ⟨_, rfl, setR (setR o2 D (.work c.number)) D2 (.wait c.number), _, _, _, r, (by show _ = [V.ref A2.p]; rw [ep]; rfl), R3, mid, er, (by show p1.asked < _; omega), (by rw [List.length_append]; omega), fun o5 H5 A5 ep5 R5 ex5 => ?_⟩
            refine ⟨_, rfl, _, rfl, iteF ?_⟩
            refine kN.use (A' := A5) ?_ (ep5.trans ep) ((ex.trans ex3).trans ex5)
            rw [List.append_assoc] at R5
            exact R5
        · by_cases e1 : b = D2
          · rw [e1, h3D2]; intro q; cases q
          · rw [setR_ne e1] at nb
            by_cases e2 : b = D
            · rw [e2, h3D]; intro q; cases q
            · rw [setR_ne e2] at nb
              rw [eH3]
              exact upd_dom (upd_dom (upd_dom (upd_dom (upd_dom (R2.dom b nb)))))
end
end Fd
end
section
namespace Fd
open PySem L2 Sw55
theorem Lvl.refill {r : Rules} {now : Nat} {x : Conn} {ch lo : Nat} (h : Lvl (some r) now x ch lo) : Lvl (some r) now x (x.filled r now) now := by
  refine ⟨Nat.le_refl _, fun r' e n hn => ?_⟩
  cases e
  have e1 := h.2 r rfl now (Nat.le_refl _)
  have e2 := h.2 r rfl n hn
  rw [← e1, ← e2]
  have e3 : n - lo = (now - lo) + (n - now) := by have := h.1; omega
  rw [e3, Nat.mul_add]
  omega
theorem Rep.same {c : Cl} {o : Own} {H : Hp} {A : SA} {s : Server} {W : List Want} (R : Rep c o H A s W) (hs : Srt s.conns) {g : GA} {x : Conn} (hg : g ∈ A.gs) (hx : x ∈ s.conns) (z : GuestAt c o H s.rules s.now g x) {dx : Addr} {ch lo : Nat} (hl : Lvl s.rules s.now x ch lo) :
    Rep c o (upd H g.a (.ins c.CG dx (gf x.from_ x.weight x.credit g.wa g.ka x.heard ch lo))) A s W := by
  have R2 := R.gput hs hg hx z (x' := x) rfl rfl rfl (dx := dx) hl
  rw [map_same (R.nd hs) hg, with_eq, repl_id hs hx] at R2
  exact R2
section
variable {P : Program} {w : World} {K : PySem.W.Frag} {mg : Str → Option Value} {base : Heap} {t : Adr}
def sp_why_not_taken (t : Adr) : Sp := fun vs H Q _ => ∃ (o : Own) (A : SA) (s : Server) (W : List Want) (r : Rules) (x : Conn) (g : GA), vs = [.ref A.p, .ref g.a] ∧ Rep (clOf t) o H A s W ∧ Ok0 s ∧ s.rules = some r ∧ g ∈ A.gs ∧ x ∈ s.conns ∧ GuestAt (clOf t) o H s.rules s.now g x ∧
  ∀ (H' : Hp) (dy : Addr) (ch lo : Nat), Rep (clOf t) o H' A s W → Ext o H o H' → GuestAt (clOf t) o H' s.rules s.now g x → H' g.a = some (.ins t.CGuest dy (gf x.from_ x.weight x.credit g.wa g.ka x.heard ch lo)) → Lvl s.rules s.now x ch lo →
    (¬ s.ends.isSome = true → 0 < r.rate → ch = x.filled r s.now ∧ lo = s.now) → Q (nv (whyOf r s x)) H'
theorem ok_why_not_taken (T : Txt K mg t) : FnOk P w K mg base CX0 2 t.fwhy_not_taken t.dwhy_not_taken ["server", "guest"] (sp_why_not_taken t) := by
  have G_refill_chances : FnOk P w K mg base CX0 1 t.frefill_chances t.drefill_chances ["guest", "now", "rate", "burst"] (sp_refill_chances t) := ok_refill_chances T
  have G_count_working : FnOk P w K mg base CX0 1 t.fcount_working t.dcount_working ["server"] (sp_count_working t) := ok_count_working T
  refine T.Fwhy_not_taken.ok sc_why_not_taken (fun vs H Q E h => ?_) (fun cdv A outer s H vs Q E hr h => ?_)
  · obtain ⟨o, A, s, W, r, x, g, rfl, _⟩ := h; rfl
  · obtain ⟨o, A, s, W, r, x, g, rfl, R, ok, er, hg, hx, z, k⟩ := h
    refine ⟨_, (pss_cons (ps_if (pt_val (pe_fld (pv 0) rfl)) (pss_one (ps_ret (pe_gi rfl T.cTELL_ENDING))) pss_nil)
      (pss_cons (ps_set (i := 2) sc_why_not_taken.nd rfl (Or.inl rfl) (pe_fld (pv 0) rfl))
      (pss_cons (ps_if (pt_cmpR op_gt (pe_fld (pv 2) rfl) pe_int (nomark _)) (pss_cons (ps_expr (pe_call G_refill_chances hr rfl T.mrefill_chances T.Frefill_chances.kp T.brefill_chances .nil pass0 (pa_cons (pv 1) (pa_cons (pe_fld (pv 0) rfl) (pa_cons (pe_fld (pv 2) rfl) (pa_cons (pe_fld (pv 2) rfl) pa_nil))))))
      (pss_one (ps_if (pt_cmpR op_lt (pe_fld (pv 1) rfl) (pe_gi rfl T.cONE_CHANCE) (nomark _)) (pss_one (ps_ret (pe_gi rfl T.cTELL_TOO_OFTEN))) pss_nil))) pss_nil)
      (pss_cons (ps_set (i := 3) sc_why_not_taken.nd rfl (Or.inl rfl) (pe_or (pe_cmpR op_ge (pe_call G_count_working hr rfl T.mcount_working T.Fcount_working.kp T.bcount_working .nil pass0 (pa_cons (pv 0) pa_nil)) (pe_fld (pv 2) rfl) (nomark _)) (pe_one (pe_cmpR op_gt (pe_callB call_len_seq (by rfl) T.len PySem.boot_len (pa_cons (pe_fld (pv 0) rfl) pa_nil)) pe_int (nomark _)))))
      (pss_cons (ps_if (PW.pt (pw_and (pt_cmpR op_ge (pe_callB call_len_seq (by rfl) T.len PySem.boot_len (pa_cons (pe_fld (pv 1) rfl) pa_nil)) (pe_fld (pv 2) rfl) (nomark _)) (pw_and1 (pt_val (pv 3))))) (pss_one (ps_ret (pe_gi rfl T.cTELL_TOO_MANY))) pss_nil)
      (pss_one (ps_ret pe_int))))))), ?_⟩
    obtain ⟨dx, ge, dz, hp, hge, hu, ou⟩ := R.rules er
    obtain ⟨dy, ch, lo, hga, hlv⟩ := z.ob
    have ro := ok.rul r er
    have npg : A.p ≠ g.a := ne_role R.os z.oa (by intro q; cases q)
    have nug : A.u ≠ g.a := ne_role ou z.oa (by intro q; cases q)
    refine ⟨_, rfl, A.p, _, dx, _, _, rfl, hp, T.clServer, T.nServer_ending, rfl, _, rfl, ?_⟩
    refine ite2 (fun q => ?_) (fun q => ?_)
    · have e : whyOf r s x = 3 := by unfold whyOf; rw [if_pos q]
      rw [e] at k
      exact k H dy ch lo R (Ext.refl _ _) z hga hlv fun y => absurd q y
    · refine ⟨_, rfl, A.p, _, dx, _, _, rfl, hp, T.clServer, T.nServer_rules, rfl, ?_⟩
      refine ⟨_, rfl, A.u, _, dz, _, _, rfl, hu, T.clRules, T.nRules_rate, rfl, _, _, rfl, rfl, _, rfl, ?_⟩
      apply ite_join (fun H5 => ¬ (0 < r.rate ∧ x.filled r s.now < 1000) ∧ ∃ ch lo, Rep (clOf t) o H5 A s W ∧ Ext o H o H5 ∧ GuestAt (clOf t) o H5 s.rules s.now g x ∧ H5 g.a = some (.ins t.CGuest dy (gf x.from_ x.weight x.credit g.wa g.ka x.heard ch lo)) ∧ Lvl s.rules s.now x ch lo ∧ (¬ s.ends.isSome = true → 0 < r.rate → ch = x.filled r s.now ∧ lo = s.now))
      case hb =>
        intro nr fin
        have nr2 : ¬ 0 < r.rate := fun y => nr (decide_eq_true (by omega))
        exact fin H ⟨fun y => nr2 y.1, ch, lo, R, Ext.refl _ _, z, hga, hlv, fun _ y => absurd y nr2⟩
      case ha =>
        intro yr fin
        have yr2 : 0 < r.rate := by have := of_decide_eq_true yr; omega
        rw [er] at hlv
        have ef : min (1000 * r.burst) (ch + r.rate * (s.now - lo)) = x.filled r s.now := hlv.2 r rfl s.now (Nat.le_refl _)
        have hlv2 := hlv.refill
        refine ⟨_, rfl, _, rfl, A.p, _, dx, _, _, rfl, hp, T.clServer, T.nServer_now, rfl, _, rfl, A.u, _, dz, _, _, rfl, hu, T.clRules, T.nRules_rate, rfl, _, rfl, A.u, _, dz, _, _, rfl, hu, T.clRules, T.nRules_burst, rfl, g.a, dy, g.wa, g.ka, x.from_, x.weight, x.credit, x.heard, ch, lo, s.now, r.rate, r.burst, rfl, hga, hlv.1, ro.rate, ro.burst, ?_⟩
        rw [ef]
        rw [← er] at hlv2
        have R1 := R.same ok.srt hg hx z (dx := dy) hlv2
        have z1 := z.put (x' := x) rfl rfl rfl (dx := dy) hlv2
        have ex1 : Ext o H o (upd H g.a (.ins t.CGuest dy (gf x.from_ x.weight x.credit g.wa g.ka x.heard (x.filled r s.now) s.now))) := Ext.gput z
        refine ⟨_, rfl, g.a, _, dy, _, _, rfl, upd_same, T.clGuest, T.nGuest_chances, rfl, _, _, rfl, rfl, _, rfl, ?_⟩
        refine ite2 (fun q2 => ?_) (fun q2 => ?_)
        · have q3 : x.filled r s.now < 1000 := by have := of_decide_eq_true q2; omega
          have e : whyOf r s x = 2 := by unfold whyOf; rw [if_neg q, if_pos ⟨yr2, q3⟩]
          rw [e] at k
          exact k _ dy _ _ R1 ex1 z1 upd_same hlv2 fun _ _ => ⟨rfl, rfl⟩
        · have q3 : ¬ (0 < r.rate ∧ x.filled r s.now < 1000) := fun y => q2 (decide_eq_true (by have := y.2; omega))
          exact fin _ ⟨q3, _, _, R1, ex1, z1, upd_same, hlv2, fun _ _ => ⟨rfl, rfl⟩⟩
      case h =>
        rintro H5 ⟨nl, ch5, lo5, R5, ex5, z5, hga5, hlv5, hch5⟩
        obtain ⟨dx5, ge5, dz5, hp5, _, hu5, _⟩ := R5.rules er
        refine ⟨_, rfl, o, A, s, W, rfl, R5, ok, fun H6 g6 => ?_⟩
        have hp6 := g6 _ _ hp5
        have hu6 := g6 _ _ hu5
        have hga6 := g6 _ _ hga5
        have hwl6 := g6 _ _ z5.wl
        have R6 := R5.grow g6
        have z6 : GuestAt (clOf t) o H6 s.rules s.now g x := z5.keep (Nat.le_refl _) fun b u hb _ => ⟨g6 b u hb, rfl⟩
        have fin := fun e => k H6 dy ch5 lo5 R6 (ex5.trans g6.ext) z6 hga6 hlv5 e
        have fin := fin hch5
        refine ⟨_, rfl, A.u, _, dz5, _, _, rfl, hu6, T.clRules, T.nRules_work, rfl, _, _, rfl, rfl, _, rfl, ?_⟩
        have lw : (g.wq.map V.ref).length = x.waiting.length := by rw [List.length_map, z.wr.length]
        refine ite2 (fun q2 => ?_) (fun q2 => ?_)
        · have q3 : r.work ≤ s.working := by have := of_decide_eq_true q2; omega
          refine ⟨_, rfl, g.a, _, dy, _, _, rfl, hga6, T.clGuest, T.nGuest_waiting, rfl, g.wa, _, rfl, .inl (SqL.of hwl6), _, rfl, A.u, _, dz5, _, _, rfl, hu6, T.clRules, T.nRules_wait, rfl, _, _, rfl, rfl, _, rfl, ?_⟩
          rw [lw]
          refine ite2 (fun q4 => ?_) (fun q4 => ?_)
          · have q5 : r.wait ≤ x.waiting.length := by have := of_decide_eq_true q4; omega
            have e : whyOf r s x = 1 := by unfold whyOf; rw [if_neg q, if_neg nl, if_pos ⟨q5, fun y => by omega⟩]
            rw [e] at fin
            exact ⟨_, rfl, _, rfl, iteT fin⟩
          · have q5 : ¬ r.wait ≤ x.waiting.length := fun y => q4 (decide_eq_true (by omega))
            have e : whyOf r s x = 0 := by unfold whyOf; rw [if_neg q, if_neg nl, if_neg fun y => q5 y.1]
            rw [e] at fin
            exact iteF fin
        · have q3 : s.working < r.work := by
            rcases Nat.lt_or_ge s.working r.work with y | y
            · exact y
            · exact absurd (decide_eq_true (by omega)) q2
          refine ⟨_, rfl, A.p, _, dx5, _, _, rfl, hp6, T.clServer, T.nServer_row, rfl, A.r, _, rfl, .inl (SqL.of R6.rl), _, _, rfl, rfl, ?_⟩
          refine ⟨_, rfl, g.a, _, dy, _, _, rfl, hga6, T.clGuest, T.nGuest_waiting, rfl, g.wa, _, rfl, .inl (SqL.of hwl6), _, rfl, A.u, _, dz5, _, _, rfl, hu6, T.clRules, T.nRules_wait, rfl, _, _, rfl, rfl, _, rfl, ?_⟩
          rw [lw]
          refine ite2 (fun q4 => ?_) (fun q4 => ?_)
          · have q5 : r.wait ≤ x.waiting.length := by have := of_decide_eq_true q4; omega
            refine ⟨_, rfl, _, rfl, ?_⟩
            refine ite2 (fun q6 => ?_) (fun q6 => ?_)
            · have q7 : s.row ≠ [] := fun y => by
                have := of_decide_eq_true q6
                rw [y] at this
                simp at this
              have e : whyOf r s x = 1 := by unfold whyOf; rw [if_neg q, if_neg nl, if_pos ⟨q5, fun y => q7 y.2⟩]
              rw [e] at fin
              exact fin
            · have q7 : s.row = [] := by
                cases y : s.row with
                | nil => rfl
                | cons a b => exact absurd (decide_eq_true (by rw [y]; simp)) q6
              have e : whyOf r s x = 0 := by unfold whyOf; rw [if_neg q, if_neg nl, if_neg fun y => y.2 ⟨q3, q7⟩]
              rw [e] at fin
              exact fin
          · have q5 : ¬ r.wait ≤ x.waiting.length := fun y => q4 (decide_eq_true (by omega))
            have e : whyOf r s x = 0 := by unfold whyOf; rw [if_neg q, if_neg nl, if_neg fun y => q5 y.1]
            rw [e] at fin
            exact iteF fin
def sp_take (t : Adr) : Sp := fun vs H Q _ => ∃ (o : Own) (A : SA) (s : Server) (W : List Want) (r : Rules) (x : Conn) (g : GA) (q : Req) (a dq da dy : Addr) (ch lo : Nat), vs = [.ref A.p, nv x.number, .ref a] ∧ Rep (clOf t) o H A s W ∧ Ok s ∧ s.asked < 100000 ∧ s.rules = some r ∧ g ∈ A.gs ∧ x ∈ s.conns ∧ GuestAt (clOf t) o H s.rules s.now g x ∧
  H g.a = some (.ins t.CGuest dy (gf x.from_ x.weight x.credit g.wa g.ka x.heard ch lo)) ∧ Lvl s.rules s.now x ch lo ∧ (0 < r.rate → ch = x.filled r s.now ∧ lo = s.now ∧ 1000 ≤ ch) ∧
  H a = some (.ins t.CRequest dq (qf q.id q.cost da q.since)) ∧ o a = .req x.number q.id ∧ H da = some (.lst (q.bytes.map nv)) ∧ o da = .data ∧ q.bytes.length ≤ 100000 ∧ (∀ q' ∈ x.waiting, q'.id ≠ q.id) ∧ (∀ y ∈ x.working, y.1 ≠ q.id) ∧
  Leaves t o H A ((takenS s x).with_ (takenC r s x q)) W (Q .non)
theorem ok_take (T : Txt K mg t) : FnOk P w K mg base CX0 1 t.ftake t.dtake ["server", "who", "request"] (sp_take t) := by
  refine T.Ftake.ok sc_take (fun vs H Q E h => ?_) (fun cdv A outer s H vs Q E hr h => ?_)
  · obtain ⟨o, A, s, W, r, x, g, q, a, dq, da, dy, ch, lo, rfl, _⟩ := h; rfl
  · obtain ⟨o, A, s, W, r, x, g, q, a, dq, da, dy, ch, lo, rfl, R, ok, has, er, hg, hx, z, hga, hlv, hch, ha, oa, hda, oda, hsz, ne1, ne2, k⟩ := h
    refine ⟨_, (pss_cons (ps_set (i := 3) sc_take.nd rfl (Or.inl rfl) (pe_dget (hu_of hr) (pe_fld (pv 0) rfl) (pv 1) (fun _ _ => rfl)))
      (pss_cons (ps_if (pt_cmpR op_gt (pe_fld (pe_fld (pv 0) rfl) rfl) pe_int (nomark _)) (pss_one (ps_fld (pv 3) (pe_op op_sub (pe_fld (pv 3) rfl) (pe_gi rfl T.cONE_CHANCE)) rfl)) pss_nil)
      (pss_cons (ps_expr (pe_bm PySem.F.plainAttrs_list PySem.F.slot_list_append PySem.F.type_list_append mt_append (pe_fld (pv 3) rfl) (pa_cons (pv 2) pa_nil)))
      (pss_cons (ps_if (pt_cmpR op_notIn_seq (pv 1) (pe_fld (pv 0) rfl) (by rfl)) (pss_one (ps_expr (pe_bm PySem.F.plainAttrs_list PySem.F.slot_list_append PySem.F.type_list_append mt_append (pe_fld (pv 0) rfl) (pa_cons (pv 1) pa_nil)))) pss_nil)
      (pss_one (ps_fld (pv 0) (pe_op op_add (pe_fld (pv 0) rfl) pe_int) rfl)))))), ?_⟩
    obtain ⟨dx, ge, dz, hp, hge, hu, ou⟩ := R.rules er
    have eg := mem_dictOf hg (R.nd ok.srt)
    rw [z.nm] at eg
    have npg : A.p ≠ g.a := ne_role R.os z.oa (by intro q; cases q)
    have nwg : g.wa ≠ g.a := ne_role z.ow z.oa (by intro q; cases q)
    have nkg : g.ka ≠ g.a := ne_role z.ok z.oa (by intro q; cases q)
    have nag : a ≠ g.a := ne_role oa z.oa (by intro q; cases q)
    have naw : a ≠ g.wa := ne_role oa z.ow (by intro q; cases q)
    have nkw : g.ka ≠ g.wa := ne_role z.ok z.ow (by intro q; cases q)
    have npw : A.p ≠ g.wa := ne_role R.os z.ow (by intro q; cases q)
    have hh := held_le ok.toOk0 hx
    refine ⟨_, rfl, A.p, _, dx, _, _, rfl, hp, T.clServer, T.nServer_inside, rfl, _, rfl, A.d, _, rfl, R.dget eg, ?_⟩
    refine ⟨_, rfl, A.p, _, dx, _, _, rfl, hp, T.clServer, T.nServer_rules, rfl, A.u, _, dz, _, _, rfl, hu, T.clRules, T.nRules_rate, rfl, _, _, rfl, rfl, _, rfl, ?_⟩
    apply ite_join (fun H5 => ∃ ch' lo', H5 g.a = some (.ins t.CGuest dy (gf x.from_ x.weight x.credit g.wa g.ka x.heard ch' lo')) ∧ Lvl s.rules s.now (takenC r s x q) ch' lo' ∧ ∀ b, b ≠ g.a → H5 b = H b)
    case hb =>
      intro nr fin
      have nr2 : ¬ 0 < r.rate := fun y => nr (decide_eq_true (by omega))
      refine fin H ⟨ch, lo, hga, ⟨hlv.1, fun r' e n hn => ?_⟩, fun _ _ => rfl⟩
      rw [hlv.2 r' e n hn]
      unfold takenC Conn.filled
      rw [if_neg nr2, if_neg nr2]
    case ha =>
      intro yr fin
      have yr2 : 0 < r.rate := by have := of_decide_eq_true yr; omega
      obtain ⟨c1, c2, c3⟩ := hch yr2
      refine ⟨_, rfl, g.a, _, dy, _, _, rfl, hga, T.clGuest, T.nGuest_chances, rfl, _, _, rfl, rfl, _, rfl, g.a, _, dy, _, rfl, hga, T.clGuest, T.nGuest_chances, (by show 8 < 1000; decide), ?_⟩
      have ecr : (ch : Int) - 1000 = ((ch - 1000 : Nat) : Int) := by omega
      dsimp only
      rw [ecr]
      refine fin _ ⟨ch - 1000, lo, upd_same, ⟨hlv.1, fun r' e n hn => ?_⟩, fun b hb => upd_ne hb⟩
      have e2 : r' = r := by rw [er] at e; exact (Option.some.inj e).symm
      subst e2
      unfold takenC Conn.filled
      rw [if_pos yr2, if_pos yr2, c1, c2]
      rfl
    case h =>
      rintro H5 ⟨ch5, lo5, hga5, hlv5, old5⟩
      have gr5 : ∀ {b : Addr} {u : HO}, H b = some u → b ≠ g.a → H5 b = some u := fun hb n => by rw [old5 _ n]; exact hb
      have hwl5 := gr5 z.wl nwg
      refine ⟨_, rfl, g.a, _, dy, _, _, rfl, hga5, T.clGuest, T.nGuest_waiting, rfl, .inl ⟨rfl, _, SqL.of hwl5⟩, _, rfl, g.wa, _, _, rfl, rfl, hwl5, (by rw [List.length_map, z.wr.length]; show _ < 16777216; omega), ?_⟩
      let g' : GA := { g with wq := g.wq ++ [a] }
      obtain ⟨H6, eH6⟩ : ∃ H6, H6 = upd H5 g.wa (.lst (g.wq.map V.ref ++ [V.ref a])) := ⟨_, rfl⟩
      have old6 : ∀ {b : Addr} {u : HO}, H b = some u → b ≠ g.a → b ≠ g.wa → H6 b = some u := fun hb n1 n2 => by rw [eH6, upd_ne n2]; exact gr5 hb n1
      have hga6 : H6 g.a = some (.ins t.CGuest dy (gf x.from_ x.weight x.credit g.wa g.ka x.heard ch5 lo5)) := by rw [eH6, upd_ne nwg.symm]; exact hga5
      have rq : ∀ {b : Addr} {u : HO} {i : Nat}, H b = some u → o b = .req x.number i → H6 b = some u := fun hb e => old6 hb (ne_role e z.oa (by intro q; cases q)) (ne_role e z.ow (by intro q; cases q))
      have dt : ∀ {b : Addr} {u : HO}, H b = some u → o b = .data → H6 b = some u := fun hb e => old6 hb (ne_role e z.oa (by intro q; cases q)) (ne_role e z.ow (by intro q; cases q))
      have z6 : GuestAt (clOf t) o H6 s.rules s.now g' (takenC r s x q) := by
        refine ⟨z.nm, ⟨dy, ch5, lo5, hga6, hlv5⟩, z.oa, ?_, z.ow, old6 z.kl nkg nkw, z.ok, ?_, ?_⟩
        · show H6 g.wa = some (.lst ((g.wq ++ [a]).map V.ref))
          rw [eH6, upd_same, List.map_append]
          rfl
        · refine paired_snoc (paired_imp z.wr fun b q' _ _ y => y.keepR fun b2 u hb r => ⟨?_, rfl⟩) ⟨⟨dq, da, rq ha oa, dt hda oda, oda⟩, oa, hsz⟩
          rcases r with r | r
          · exact rq hb r
          · exact dt hb r
        · exact paired_imp z.kr fun b y' _ _ y => y.keepR fun b2 u hb r => ⟨rq hb r, rfl⟩
      have R6 := R.guest ok.srt (H' := H6) (o' := o) (g' := g') hg hx z (x' := takenC r s x q) rfl rfl (fun b u hb no nk => ⟨old6 hb (fun y => nk (by rw [y, z.oa]; rfl)) (fun y => nk (by rw [y, z.ow]; rfl)), rfl⟩) (fun b nb => ?_) z6
      · have ex6 : Ext o H o H6 := fun b u hb r => ⟨old6 hb (fun y => by rw [y, z.oa] at r; rcases r with r | r <;> cases r) (fun y => by rw [y, z.ow] at r; rcases r with r | r <;> cases r), rfl⟩
        obtain ⟨dx6, ge6, hp6, hge6⟩ := R6.sv
        have hrl6 : H6 A.r = some (.lst (s.row.map nv)) := R6.rl
        subst eH6
        refine ⟨_, rfl, _, rfl, A.p, _, dx6, _, _, rfl, hp6, T.clServer, T.nServer_row, rfl, A.r, _, rfl, .inl (SqL.of hrl6), rfl, flat_nv _, _, rfl, ?_⟩
        show if (!(inV (nv x.number) (s.row.map nv))) = true then _ else _
        rw [in_nv]
        refine ite2 (fun m => ?_) (fun m => ?_)
        · have m1 : x.number ∉ s.row := by simpa using m
          have ewait : x.waiting = [] := by
            cases y : x.waiting with
            | nil => rfl
            | cons a b => exact absurd (ok.win x hx (by rw [y]; simp)) m1
          have rl := row_le ok.toOk0
          refine ⟨_, rfl, A.p, _, dx6, _, _, rfl, hp6, T.clServer, T.nServer_row, rfl, .inl ⟨rfl, _, SqL.of hrl6⟩, _, rfl, A.r, _, _, rfl, rfl, hrl6, (by rw [List.length_map]; show _ < 16777216; omega), ?_⟩
          have R7 := R6.setrow (s.row ++ [x.number])
          have ex7 := Ext.setrow R6 (u := .lst ((s.row ++ [x.number]).map nv))
          rw [List.map_append] at R7 ex7
          obtain ⟨dx7, ge7, hp7, hge7⟩ := R7.sv
          refine ⟨_, rfl, A.p, _, dx7, _, _, rfl, hp7, T.clServer, T.nServer_taken, rfl, _, _, rfl, rfl, _, rfl, A.p, _, dx7, _, rfl, hp7, T.clServer, T.nServer_taken, (by show 10 < 1000; decide), ?_⟩
          have R8 := R7.scal (s' := (takenS s x).with_ (takenC r s x q)) (dx := dx7) (ge := ge7) rfl rfl (by show (if x.waiting.isEmpty = true then s.row ++ [x.number] else s.row) = _; rw [ewait]; rfl) (Nat.le_refl _) hge7
          exact k.use R8 rfl ((ex6.trans ex7).trans (Ext.scal R7))
        · have m1 : x.number ∈ s.row := by simpa using m
          have ewait : x.waiting ≠ [] := ok.row x hx m1
          refine ⟨_, rfl, A.p, _, dx6, _, _, rfl, hp6, T.clServer, T.nServer_taken, rfl, _, _, rfl, rfl, _, rfl, A.p, _, dx6, _, rfl, hp6, T.clServer, T.nServer_taken, (by show 10 < 1000; decide), ?_⟩
          have R8 := R6.scal (s' := (takenS s x).with_ (takenC r s x q)) (dx := dx6) (ge := ge6) rfl rfl (by show (if x.waiting.isEmpty = true then s.row ++ [x.number] else s.row) = s.row; rw [if_neg (by simpa using ewait)]) (Nat.le_refl _) hge6
          exact k.use R8 rfl (ex6.trans (Ext.scal R6))
      · rw [eH6]
        refine upd_dom ?_
        by_cases e1 : b = g.a
        · rw [e1, hga5]; intro q; cases q
        · rw [old5 b e1]; exact R.dom b nb
end
end Fd
end
section
namespace Fd
open PySem L2 Sw55
theorem fits_iff {id cost : Nat} {l : Nat} : reqFits id cost l = false ↔ (2 ^ 32 ≤ id ∨ within cost 1 65535 = false ∨ 65536 < l) := by
  unfold reqFits
  rw [Bool.and_eq_false_iff, Bool.and_eq_false_iff, decide_eq_false_iff_not]
  have e : within id 0 4294967295 = false ↔ 2 ^ 32 ≤ id := by
    cases z : within id 0 4294967295 with
    | true => have := within_range.mp z; constructor; intro h; cases h; intro h; omega
    | false =>
      constructor
      · intro _
        rcases Nat.lt_or_ge id 4294967296 with y | y
        · rw [within_range.mpr (by omega)] at z; cases z
        · exact y
      · intro _; rfl
  rw [e]
  constructor
  · rintro (h | h | h)
    · exact .inl h
    · exact .inr (.inl h)
    · exact .inr (.inr (by omega))
  · rintro (h | h | h)
    · exact .inl h
    · exact .inr (.inl h)
    · exact .inr (.inr (by omega))
theorem told_lvl {r : Rules} {t : Server} {c : Conn} {ch lo : Nat} (er : t.rules = some r) (h : Lvl t.rules t.now c ch lo) (e : ¬ t.ends.isSome = true → 0 < r.rate → ch = c.filled r t.now ∧ lo = t.now) : Lvl t.rules t.now (toldC r t c) ch lo := by
  unfold toldC
  split
  · rename_i hw
    unfold whyOf at hw
    split at hw
    · cases hw
    · rename_i h1
      split at hw
      · rename_i h2
        obtain ⟨e1, e2⟩ := e h1 h2.1
        refine ⟨h.1, fun r' e' n hn => ?_⟩
        have e3 : r' = r := by rw [er] at e'; exact (Option.some.inj e').symm
        subst e3
        rw [e1, e2]
        rfl
      · split at hw <;> cases hw
  · exact h
theorem toldC_same (r : Rules) (t : Server) (c : Conn) : (toldC r t c).number = c.number ∧ (toldC r t c).waiting = c.waiting ∧ (toldC r t c).working = c.working ∧ (toldC r t c).from_ = c.from_ ∧ (toldC r t c).weight = c.weight ∧ (toldC r t c).credit = c.credit ∧ (toldC r t c).heard = c.heard := by
  unfold toldC
  split <;> exact ⟨rfl, rfl, rfl, rfl, rfl, rfl, rfl⟩
theorem upd_self {H : Hp} {a : Addr} {u : HO} (h : H a = some u) : upd H a u = H := by
  funext b
  by_cases e : b = a
  · rw [e, upd_same, h]
  · rw [upd_ne e]
section
variable {P : Program} {w : World} {K : PySem.W.Frag} {mg : Str → Option Value} {base : Heap} {t : Adr}
def sp_ask (t : Adr) : Sp := fun vs H Q _ => ∃ (o : Own) (A : SA) (s : Server) (W : List Want) (k id cost n : Nat) (da : Addr) (bs : Bytes), vs = [.ref A.p, nv k, nv id, nv cost, nv n, .ref da] ∧ Rep (clOf t) o H A s W ∧ H da = some (.lst (bs.map nv)) ∧ o da = .data ∧
  Asked s W (.asks k id cost n bs) ∧ Gives t o H A s W (.asks k id cost n bs) Q
theorem ok_ask (T : Txt K mg t) : FnOk P w K mg base CX0 7 t.fask t.dask ["server", "who", "number", "cost", "now", "data"] (sp_ask t) := by
  have G_request_fits : FnOk P w K mg base CX0 6 t.frequest_fits t.drequest_fits ["request", "cost", "data"] (sp_request_fits K) := (ok_request_fits T).mono (by decide)
  have G_refuses : FnOk P w K mg base CX0 6 t.frefuses t.drefuses ["server", "who", "now"] (sp_refuses t) := ok_refuses T
  have G_settle : FnOk P w K mg base CX0 6 t.fsettle t.dsettle ["server"] (sp_settle t) := (ok_settle T).mono (by decide)
  have G_find_request : FnOk P w K mg base CX0 6 t.ffind_request t.dfind_request ["requests", "number"] (sp_find_request t) := (ok_find_request T).mono (by decide)
  have G_why_not_taken : FnOk P w K mg base CX0 6 t.fwhy_not_taken t.dwhy_not_taken ["server", "guest"] (sp_why_not_taken t) := (ok_why_not_taken T).mono (by decide)
  have G_take : FnOk P w K mg base CX0 6 t.ftake t.dtake ["server", "who", "request"] (sp_take t) := (ok_take T).mono (by decide)
  have G_want_tell : FnOk P w K mg base CX0 6 t.fwant_tell t.dwant_tell ["server", "who", "number", "why"] (sp_want_tell t) := (ok_want_tell T).mono (by decide)
  have G_Request_init : FnOk P w K mg base CX0 5 t.fRequest_init t.dRequest_init ["self", "number", "cost", "data", "since"] (sp_Request_init t) := (ok_Request_init T).mono (by decide)
  refine T.Fask.ok sc_ask (fun vs H Q E h => ?_) (fun cdv A outer s H vs Q E hr h => ?_)
  · obtain ⟨o, A, s, W, k, id, cost, n, da, bs, rfl, _⟩ := h; rfl
  · obtain ⟨o, A, s, W, k, id, cost, n, da, bs, rfl, R, hda, oda, ⟨ok, has, hW⟩, kk⟩ := h
    refine ⟨_, (pss_cons (ps_if (pt_not (pt_val (pe_call G_request_fits hr rfl T.mrequest_fits T.Frequest_fits.kp T.brequest_fits .nil pass0 (pa_cons (pv 2) (pa_cons (pv 3) (pa_cons (pv 5) pa_nil)))))) (pss_one (ps_ret (pe_gi rfl T.cOUT_OF_RANGE))) pss_nil)
      (pss_cons (ps_set (i := 6) sc_ask.nd rfl (Or.inl rfl) (pe_call G_refuses hr rfl T.mrefuses T.Frefuses.kp T.brefuses .nil pass0 (pa_cons (pv 0) (pa_cons (pv 1) (pa_cons (pv 4) pa_nil)))))
      (pss_cons (ps_if (pt_cmpR op_lt (pv 6) pe_int (nomark _)) (pss_one (ps_ret (pv 6))) pss_nil)
      (pss_cons (ps_set (i := 7) sc_ask.nd rfl (Or.inl rfl) (pe_dget (hu_of hr) (pe_fld (pv 0) rfl) (pv 1) (fun _ _ => rfl)))
      (pss_cons (ps_if (pt_cmp (pc_notN (pe_call G_find_request hr rfl T.mfind_request T.Ffind_request.kp T.bfind_request .nil pass0 (pa_cons (pe_op op_cat (pe_fld (pv 7) rfl) (pe_fld (pv 7) rfl)) (pa_cons (pv 2) pa_nil))))) (pss_one (ps_ret (pe_gi rfl T.cHAS_IT_ALREADY))) pss_nil)
      (pss_cons (ps_fld (pv 7) (pe_fld (pv 0) rfl) rfl)
      (pss_cons (ps_set (i := 8) sc_ask.nd rfl (Or.inl rfl) (pe_call G_why_not_taken hr rfl T.mwhy_not_taken T.Fwhy_not_taken.kp T.bwhy_not_taken .nil pass0 (pa_cons (pv 0) (pa_cons (pv 7) pa_nil))))
      (pss_cons (ps_if (pt_cmpR op_eq (pv 8) pe_int (nomark _)) (pss_one (ps_expr (pe_call G_take hr rfl T.mtake T.Ftake.kp T.btake .nil pass0 (pa_cons (pv 0) (pa_cons (pv 1) (pa_cons (pe_make T.MRequest G_Request_init hr rfl T.mRequest T.bRequest_init .nil pass0 (pa_cons (pv 2) (pa_cons (pv 3) (pa_cons (pv 5) (pa_cons (pe_fld (pv 0) rfl) pa_nil))))) pa_nil)))))) (pss_one (ps_expr (pe_call G_want_tell hr rfl T.mwant_tell T.Fwant_tell.kp T.bwant_tell .nil pass0 (pa_cons (pv 0) (pa_cons (pv 1) (pa_cons (pv 2) (pa_cons (pv 8) pa_nil))))))))
      (pss_cons (ps_expr (pe_call G_settle hr rfl T.msettle T.Fsettle.kp T.bsettle .nil pass0 (pa_cons (pv 0) pa_nil)))
      (pss_one (ps_ret (pv 8)))))))))))), ?_⟩
    refine ⟨_, rfl, _, rfl, _, rfl, id, cost, da, _, rfl, SqL.of hda, _, rfl, ?_⟩
    rw [List.length_map]
    cases zf : reqFits id cost bs.length with
    | false =>
      unfold Gives at kk
      rw [asks_bad (fits_iff.mp zf)] at kk
      refine iteT ?_
      exact kk.use (by show Rep _ _ _ _ _ (W ++ []); rw [List.append_nil]; exact R) rfl (Ext.refl _ _)
    | true =>
      have ng : ¬ (2 ^ 32 ≤ id ∨ within cost 1 65535 = false ∨ 65536 < bs.length) := fun y => by rw [fits_iff.mpr y] at zf; cases zf
      have es := asks_eq (s := s) (k := k) (n := n) ng
      have hcost : 1 ≤ cost ∧ cost ≤ 65535 := by
        have : within cost 1 65535 = true := by
          cases y : within cost 1 65535 with
          | true => rfl
          | false => exact absurd (.inr (.inl y)) ng
        unfold within at this
        simpa using this
      have hbs : bs.length ≤ 65536 := by
        rcases Nat.lt_or_ge 65536 bs.length with y | y
        · exact absurd (.inr (.inr y)) ng
        · exact y
      obtain ⟨pok, pset, pnow, prul, pend, pask⟩ := passes_ok ok n
      refine iteF ?_
      refine ⟨_, rfl, _, rfl, _, rfl, o, A, s, W, k, n, rfl, R, ok, by omega, fun nt => ?_, fun lt => ?_, fun nt e => ?_, fun c nt e => ?_⟩
      · rw [es] at hW
        exact Nat.lt_of_le_of_lt (Nat.add_le_add_left (ofConn_wants ok nt) _) hW
      · unfold Gives at kk
        rw [es, ofConn_late lt] at kk
        refine ⟨_, rfl, _, _, rfl, rfl, _, rfl, iteT ⟨_, rfl, ?_⟩⟩
        exact kk.use (by show Rep _ _ _ _ _ (W ++ []); rw [List.append_nil]; exact R) rfl (Ext.refl _ _)
      · have k2 := gives_ok (es.trans (ofConn_out nt e)) kk
        intro o2 H2 A2 ep R2 ex
        refine ⟨_, rfl, _, _, rfl, rfl, _, rfl, iteT ⟨_, rfl, ?_⟩⟩
        exact k2.use R2 ep ex
      · obtain ⟨r, er⟩ := in_rules pok.toOk0 e
        intro o2 H2 A2 ep R2 ex
        obtain ⟨hc, hk⟩ := pick_some e
        subst hk
        have k3 : (heardNow (passes s n).1 c).has id = true → Leaves t o H A (passes s n).1 (W ++ (passes s n).2) (Q (.int (-3))) := fun h1 => by
          have := gives_then (es.trans (ofConn_in1 nt er e (v := -3) (y := done (passes s n).1) (askF_has h1))) (y := ((passes s n).1, [])) (by show Does.then_ ((passes s n).1, []) Sw55.settle = _; rw [then_nil, settle_noop pok pset]) kk
          rw [List.append_nil] at this
          exact this
        have st1 : ¬ (heardNow (passes s n).1 c).has id = true → whyOf r (passes s n).1 (heardNow (passes s n).1 c) ≠ 0 → Sw55.step s (.asks c.number id cost n bs) = Sw55.ok ((whyOf r (passes s n).1 (heardNow (passes s n).1 c) : Nat) : Int) ((passes s n).then_ fun _ => Does.then_ ({ (passes s n).1 with refused := (passes s n).1.refused + 1 }.with_ (toldC r (passes s n).1 (heardNow (passes s n).1 c)), [.tell c.number id (whyOf r (passes s n).1 (heardNow (passes s n).1 c))]) Sw55.settle) := fun h1 h2 =>
          es.trans (ofConn_in1 nt er e (askF_told h1 h2))
        have st0 : ¬ (heardNow (passes s n).1 c).has id = true → whyOf r (passes s n).1 (heardNow (passes s n).1 c) = 0 → Sw55.step s (.asks c.number id cost n bs) = Sw55.ok 0 ((passes s n).then_ fun _ => Does.then_ ((takenS (passes s n).1 (heardNow (passes s n).1 c)).with_ (takenC r (passes s n).1 (heardNow (passes s n).1 c) ⟨id, cost, bs, (passes s n).1.now⟩), []) Sw55.settle) := fun h1 h2 =>
          es.trans (ofConn_in1 nt er e (askF_taken h1 h2 rfl))
        have kT : ¬ (heardNow (passes s n).1 c).has id = true → whyOf r (passes s n).1 (heardNow (passes s n).1 c) ≠ 0 → Leaves t o H A (Sw55.settle ({ (passes s n).1 with refused := (passes s n).1.refused + 1 }.with_ (toldC r (passes s n).1 (heardNow (passes s n).1 c)))).1 (W ++ ((passes s n).2 ++ ([.tell c.number id (whyOf r (passes s n).1 (heardNow (passes s n).1 c))] ++ (Sw55.settle ({ (passes s n).1 with refused := (passes s n).1.refused + 1 }.with_ (toldC r (passes s n).1 (heardNow (passes s n).1 c)))).2))) (Q (.int ((whyOf r (passes s n).1 (heardNow (passes s n).1 c) : Nat) : Int))) := fun h1 h2 =>
          gives_then (st1 h1 h2) (y := ((Sw55.settle _).1, [.tell c.number id _] ++ (Sw55.settle _).2)) (then_pair _ _ _) kk
        have wT : ¬ (heardNow (passes s n).1 c).has id = true → whyOf r (passes s n).1 (heardNow (passes s n).1 c) ≠ 0 → W.length + ((passes s n).2 ++ ([Want.tell c.number id (whyOf r (passes s n).1 (heardNow (passes s n).1 c))] ++ (Sw55.settle ({ (passes s n).1 with refused := (passes s n).1.refused + 1 }.with_ (toldC r (passes s n).1 (heardNow (passes s n).1 c)))).2)).length < sizeLine := fun h1 h2 =>
          le_then (st1 h1 h2) (y := ((Sw55.settle _).1, [.tell c.number id _] ++ (Sw55.settle _).2)) (then_pair _ _ _) hW
        have kN : ¬ (heardNow (passes s n).1 c).has id = true → whyOf r (passes s n).1 (heardNow (passes s n).1 c) = 0 → Leaves t o H A (Sw55.settle ((takenS (passes s n).1 (heardNow (passes s n).1 c)).with_ (takenC r (passes s n).1 (heardNow (passes s n).1 c) ⟨id, cost, bs, (passes s n).1.now⟩))).1 (W ++ ((passes s n).2 ++ (Sw55.settle ((takenS (passes s n).1 (heardNow (passes s n).1 c)).with_ (takenC r (passes s n).1 (heardNow (passes s n).1 c) ⟨id, cost, bs, (passes s n).1.now⟩))).2)) (Q (.int 0)) := fun h1 h2 =>
          gives_then (st0 h1 h2) (y := Sw55.settle _) (then_nil _ _) kk
        have wN : ¬ (heardNow (passes s n).1 c).has id = true → whyOf r (passes s n).1 (heardNow (passes s n).1 c) = 0 → W.length + ((passes s n).2 ++ (Sw55.settle ((takenS (passes s n).1 (heardNow (passes s n).1 c)).with_ (takenC r (passes s n).1 (heardNow (passes s n).1 c) ⟨id, cost, bs, (passes s n).1.now⟩))).2).length < sizeLine := fun h1 h2 =>
          le_then (st0 h1 h2) (y := Sw55.settle _) (then_nil _ _) hW
        clear kk hW es st1 st0
        generalize passes s n = pp at pok pset pnow prul pend pask e er hc R2 k3 kT wT kN wN
        obtain ⟨p1, p2⟩ := pp
        dsimp only at pok pset pnow prul pend pask e er hc R2 k3 kT wT kN wN
        refine ⟨_, rfl, _, _, rfl, rfl, _, rfl, iteF ?_⟩
        obtain ⟨dx, ge, hp, _⟩ := R2.sv
        rw [ep] at hp
        obtain ⟨g, hg, z, eg⟩ := R2.look pok.srt hc
        obtain ⟨dy, ch, lo, hga, hlv⟩ := z.ob
        obtain ⟨xs, x1, x2, x3, x4, x5⟩ := numsK z.kr
        obtain ⟨ys, y1, y2, y3, y4, y5⟩ := numsW z.wr
        have hkl := z.kl
        rw [x1] at hkl
        have hwl := z.wl
        rw [y1] at hwl
        have hh := held_le pok.toOk0 hc
        refine ⟨_, rfl, A.p, _, dx, _, _, rfl, hp, T.clServer, T.nServer_inside, rfl, _, rfl, A2.d, _, rfl, R2.dget eg, ?_⟩
        have lxy : (refs ys).length + (refs xs).length ≤ sizeLine := by
          unfold refs
          rw [List.length_map, List.length_map, x4, y4]
          show _ ≤ 16777216
          omega
        refine ⟨_, rfl, g.a, _, dy, _, _, rfl, hga, T.clGuest, T.nGuest_waiting, rfl, _, rfl, g.a, _, dy, _, _, rfl, hga, T.clGuest, T.nGuest_working, rfl, g.wa, g.ka, _, _, rfl, rfl, hwl, hkl, lxy, fun D hD => ?_⟩
        have g3 : Grow H2 (upd H2 D (.lst (refs ys ++ refs xs))) := Grow.new hD
        have eyx : refs ys ++ refs xs = refs (ys ++ xs) := by unfold refs; rw [List.map_append]
        have rno : ReqNo t.CRequest (upd H2 D (.lst (refs ys ++ refs xs))) (ys ++ xs) := fun y hy => by
          rcases List.mem_append.mp hy with hy | hy
          · obtain ⟨a1, a2, a3, a4, a5⟩ := y3 y hy; exact ⟨a1, a2, a3, a4, g3 _ _ a5⟩
          · obtain ⟨a1, a2, a3, a4, a5⟩ := x3 y hy; exact ⟨a1, a2, a3, a4, g3 _ _ a5⟩
        refine ⟨_, rfl, D, id, ys ++ xs, rfl, (by rw [upd_same, eyx]), rno, fun v hv => ?_⟩
        rw [List.map_append, y2, x2] at hv
        have hv2 : v = V.non ↔ ¬ (heardNow p1 c).has id = true := by
          rw [hv, has_iff]
          exact Iff.rfl
        have R3 := R2.grow g3
        have ex3 := ex.trans (g3.ext (o := o2))
        have hp3 := g3 _ _ hp
        have hga3 := g3 _ _ hga
        have z3 : GuestAt (clOf t) o2 (upd H2 D (.lst (refs ys ++ refs xs))) p1.rules p1.now g c := z.keep (Nat.le_refl _) fun b u hb _ => ⟨g3 b u hb, rfl⟩
        generalize (upd H2 D (.lst (refs ys ++ refs xs))) = H3 at R3 ex3 hp3 hga3 z3
        refine ⟨_, rfl, ?_⟩
        refine ite2 (fun q => ?_) (fun q => ?_)
        · have q1 : (heardNow p1 c).has id = true := by
            by_cases y : (heardNow p1 c).has id = true
            · exact y
            · rw [decide_eq_true (hv2.mpr y)] at q; cases q
          exact (k3 q1).use R3 ep ex3
        · have q1 : ¬ (heardNow p1 c).has id = true := fun y => q (by rw [decide_eq_false (fun y2 => hv2.mp y2 y)]; rfl)
          refine ⟨_, rfl, A.p, _, dx, _, _, rfl, hp3, T.clServer, T.nServer_now, rfl, _, rfl, g.a, _, dy, _, rfl, hga3, T.clGuest, T.nGuest_heard_at, (by show 8 < 1000; decide), ?_⟩
          have R4 := R3.gput pok.srt hg hc z3 (x' := heardNow p1 c) rfl rfl rfl (dx := dy) (ch := ch) (lo := lo) hlv
          have z4 := z3.put (x' := heardNow p1 c) rfl rfl rfl (dx := dy) (ch := ch) (lo := lo) hlv
          have ex4 := ex3.trans (Ext.gput z3 (u := .ins (clOf t).CG dy (gf (heardNow p1 c).from_ (heardNow p1 c).weight (heardNow p1 c).credit g.wa g.ka (heardNow p1 c).heard ch lo)))
          have ok4 : Ok (p1.with_ (heardNow p1 c)) := heard_mid pok hc
          have hc4 : heardNow p1 c ∈ (p1.with_ (heardNow p1 c)).conns := mem_repl.mpr (.inr ⟨rfl, c, hc, rfl⟩)
          rw [map_same (R3.nd pok.srt) hg] at R4
          refine ⟨_, rfl, _, rfl, o2, A2, p1.with_ (heardNow p1 c), _, r, heardNow p1 c, g, (by rw [ep]; rfl), R4, ok4.toOk0, er, hg, hc4, z4, fun H5 dy5 ch5 lo5 R5 ex5 z5 hga5 hlv5 hch5 => ?_⟩
          have ewhy : whyOf r (p1.with_ (heardNow p1 c)) (heardNow p1 c) = whyOf r p1 (heardNow p1 c) := by
            unfold whyOf
            have ew : (p1.with_ (heardNow p1 c)).working = p1.working := by
              have := sum_repl (fun x => x.working.length) (c := c) (d := heardNow p1 c) rfl pok.srt hc
              show ((repl (heardNow p1 c) p1.conns).map fun x => x.working.length).sum = (p1.conns.map fun x => x.working.length).sum
              simp only [heardNow] at this ⊢
              omega
            rw [ew]
            rfl
          rw [ewhy]
          have ex5' := ex4.trans ex5
          refine ⟨_, rfl, rfl, _, rfl, ?_⟩
          refine ite2 (fun y => ?_) (fun y => ?_)
          · have y0 : whyOf r p1 (heardNow p1 c) = 0 := by have := V.int.inj (of_decide_eq_true y); omega
            have kN := kN q1 y0
            have wN := wN q1 y0
            rw [List.length_append] at wN
            obtain ⟨dx5, ge5, hp5, _⟩ := R5.sv
            rw [ep] at hp5
            obtain ⟨hda5, oda5'⟩ := ex5' _ _ hda (.inr oda)
            have oda5 : o2 da = .data := oda5'.trans oda
            refine ⟨_, rfl, _, rfl, _, rfl, _, rfl, _, rfl, _, rfl, A.p, _, dx5, _, _, rfl, hp5, T.clServer, T.nServer_now, rfl, fun a dq ha hdq nad => ?_⟩
            refine ⟨a, dq, da, id, cost, p1.now, rfl, upd_same, rfl, ?_⟩
            rw [upd_upd]
            have oa : o2 a = .out := R5.free ha
            have odq : o2 dq = .out := R5.free hdq
            obtain ⟨H6, eH6⟩ : ∃ H6, H6 = upd (upd H5 dq (.own a)) a (.ins t.CRequest dq (qf id cost da p1.now)) := ⟨_, rfl⟩
            have g6 : Grow H5 H6 := fun b u hb => by rw [eH6, upd_ne (ne_of_none hb ha), upd_ne (ne_of_none hb hdq)]; exact hb
            have ha6 : H6 a = some (.ins t.CRequest dq (qf id cost da p1.now)) := by rw [eH6]; exact upd_same
            have R6 : Rep (clOf t) (setR o2 a (.req c.number id)) H6 A2 (p1.with_ (heardNow p1 c)) (W ++ p2) := (R5.grow g6).keep (fun b u hb nb => ⟨hb, setR_ne fun y => nb (by rw [y]; exact oa)⟩) fun b nb => by
              by_cases e1 : b = a
              · rw [e1, ha6]; intro q; cases q
              · rw [setR_ne e1] at nb; exact (R5.grow g6).dom b nb
            have oo : ∀ {b : Addr} {u : HO}, H5 b = some u → setR o2 a (.req c.number id) b = o2 b := fun hb => setR_ne (ne_of_none hb ha)
            have z6 : GuestAt (clOf t) (setR o2 a (.req c.number id)) H6 p1.rules p1.now g (heardNow p1 c) := z5.keep (Nat.le_refl _) fun b u hb _ => ⟨g6 b u hb, oo hb⟩
            have ex6 : Ext o2 H5 (setR o2 a (.req c.number id)) H6 := fun b u hb _ => ⟨g6 b u hb, oo hb⟩
            have hne : id ∉ c.waiting.map (·.id) ++ c.working.map (·.1) := fun m => q1 ((has_iff c id).mpr m)
            have n1 : ∀ q' ∈ c.waiting, q'.id ≠ id := fun q' hq' e => hne (List.mem_append_left _ (by rw [← e]; exact List.mem_map_of_mem hq'))
            have n2 : ∀ y ∈ c.working, y.1 ≠ id := fun y hy e => hne (List.mem_append_right _ (by rw [← e]; exact List.mem_map_of_mem hy))
            have hch6 : 0 < r.rate → ch5 = (heardNow p1 c).filled r p1.now ∧ lo5 = p1.now ∧ 1000 ≤ ch5 := fun hr0 => by
              have nend : ¬ p1.ends.isSome = true := fun y => by unfold whyOf at y0; rw [if_pos y] at y0; cases y0
              obtain ⟨c1, c2⟩ := hch5 nend hr0
              refine ⟨c1, c2, ?_⟩
              rcases Nat.lt_or_ge ch5 1000 with y | y
              · exfalso
                unfold whyOf at y0
                rw [if_neg nend, if_pos ⟨hr0, by have c3 : ch5 = (heardNow p1 c).filled r p1.now := c1; rw [← c3]; exact y⟩] at y0
                cases y0
              · exact y
            have mid : Ok ((takenS p1 (heardNow p1 c)).with_ (takenC r p1 (heardNow p1 c) ⟨id, cost, bs, p1.now⟩)) := taken_mid pok hc q1 hcost
            have esame : (takenS (p1.with_ (heardNow p1 c)) (heardNow p1 c)).with_ (takenC r (p1.with_ (heardNow p1 c)) (heardNow p1 c) ⟨id, cost, bs, p1.now⟩) = (takenS p1 (heardNow p1 c)).with_ (takenC r p1 (heardNow p1 c) ⟨id, cost, bs, p1.now⟩) := by
              show ({ takenS p1 (heardNow p1 c) with conns := repl (takenC r p1 (heardNow p1 c) ⟨id, cost, bs, p1.now⟩) (repl (heardNow p1 c) p1.conns) } : Server) = { takenS p1 (heardNow p1 c) with conns := repl (takenC r p1 (heardNow p1 c) ⟨id, cost, bs, p1.now⟩) p1.conns }
              rw [repl_repl (d := takenC r p1 (heardNow p1 c) ⟨id, cost, bs, p1.now⟩) (e := heardNow p1 c) rfl]
            subst eH6
            refine ⟨setR o2 a (.req c.number id), A2, p1.with_ (heardNow p1 c), W ++ p2, r, heardNow p1 c, g, ⟨id, cost, bs, p1.now⟩, a, dq, da, dy5, ch5, lo5, (by rw [ep]; rfl), R6, ok4, (by show p1.asked < _; omega), er, hg, hc4, z6, g6 _ _ hga5, hlv5, hch6, ha6, setR_same, g6 _ _ hda5, (by rw [oo hda5]; exact oda5), (by show bs.length ≤ 100000; omega), n1, n2, fun o7 H7 A7 ep7 R7 ex7 => ?_⟩
            rw [esame] at R7
            refine ⟨_, rfl, o7, A7, _, _, r, (by rw [ep7, ep]; rfl), R7, mid.toOk0, er, (by show p1.asked + 1 < _; omega), (by rw [List.length_append]; omega), fun o8 H8 A8 ep8 R8 ex8 => ?_⟩
            refine ⟨_, rfl, ?_⟩
            rw [y0]
            refine kN.use (A' := A8) ?_ (by rw [ep8, ep7, ep]) (((ex5'.trans ex6).trans ex7).trans ex8)
            rw [List.append_assoc] at R8
            exact R8
          · have y0 : whyOf r p1 (heardNow p1 c) ≠ 0 := fun y1 => y (decide_eq_true (by rw [y1]; rfl))
            have kT := kT q1 y0
            have wT := wT q1 y0
            simp only [List.length_append, List.length_singleton] at wT
            have mid : Ok ({ p1 with refused := p1.refused + 1 }.with_ (toldC r p1 (heardNow p1 c))) := told_mid pok hc _
            obtain ⟨t1, t2, t3, t4, t5, t6, t7⟩ := toldC_same r p1 (heardNow p1 c)
            have hl6 : Lvl p1.rules p1.now (toldC r p1 (heardNow p1 c)) ch5 lo5 := told_lvl er hlv5 hch5
            have R6 := R5.gput ok4.srt hg hc4 z5 (x' := toldC r p1 (heardNow p1 c)) t1 t2 t3 (dx := dy5) hl6
            have hga5' : H5 g.a = some (.ins (clOf t).CG dy5 (gf (heardNow p1 c).from_ (heardNow p1 c).weight (heardNow p1 c).credit g.wa g.ka (heardNow p1 c).heard ch5 lo5)) := hga5
            rw [t4, t5, t6, t7, upd_self hga5', map_same (R5.nd ok4.srt) hg] at R6
            have esame : (p1.with_ (heardNow p1 c)).with_ (toldC r p1 (heardNow p1 c)) = p1.with_ (toldC r p1 (heardNow p1 c)) := by
              show ({ p1 with conns := repl (toldC r p1 (heardNow p1 c)) (repl (heardNow p1 c) p1.conns) } : Server) = { p1 with conns := repl (toldC r p1 (heardNow p1 c)) p1.conns }
              rw [repl_repl (d := toldC r p1 (heardNow p1 c)) (e := heardNow p1 c) t1]
            rw [esame] at R6
            refine ⟨_, rfl, _, rfl, _, rfl, _, rfl, o2, A2, p1.with_ (toldC r p1 (heardNow p1 c)), W ++ p2, c.number, id, whyOf r p1 (heardNow p1 c), (by rw [ep]; rfl), R6, (by rw [List.length_append]; omega), fun y7 o7 H7 R7 kp7 => ?_⟩
            refine ⟨_, rfl, o7, _, ({ p1 with refused := p1.refused + 1 }.with_ (toldC r p1 (heardNow p1 c))), _, r, (by show _ = [V.ref A2.p]; rw [ep]; rfl), R7, mid.toOk0, er, (by show p1.asked < _; omega), (by simp only [List.length_append, List.length_singleton]; omega), fun o8 H8 A8 ep8 R8 ex8 => ?_⟩
            refine ⟨_, rfl, ?_⟩
            refine kT.use (A' := A8) ?_ (ep8.trans ep) ((ex5'.trans kp7.ext).trans ex8)
            rw [List.append_assoc, List.append_assoc] at R8
            exact R8
end
end Fd
end
section
namespace Fd
open PySem L2 Sw55
def lateT (limit : Nat) (x : Conn) : List Nat := if limit = 0 then [] else x.working.map (fun w => w.2 + limit) ++ x.waiting.map (fun q => q.since + limit)
def idleT (idle : Nat) (x : Conn) : List Nat := if idle = 0 then [] else if x.quiet = true then [x.heard + idle] else []
def timesC (r : Rules) (x : Conn) : List Nat := lateT r.limit x ++ idleT r.idle x
theorem flat_perm {α : Type} (f g : α → List Nat) : ∀ l : List α, (l.flatMap fun a => f a ++ g a).Perm (l.flatMap f ++ l.flatMap g)
  | [] => List.Perm.refl _
  | a :: r => by
    rw [List.flatMap_cons, List.flatMap_cons, List.flatMap_cons, List.append_assoc, List.append_assoc]
    refine List.Perm.append_left _ ?_
    refine ((flat_perm f g r).append_left (g a)).trans ?_
    rw [← List.append_assoc, ← List.append_assoc]
    exact List.Perm.append_right _ List.perm_append_comm
theorem flat_zero {α : Type} (l : List α) : (l.flatMap fun _ => ([] : List Nat)) = [] := by
  induction l with
  | nil => rfl
  | cons a r ih => rw [List.flatMap_cons, ih]; rfl
theorem flat_idle (idle : Nat) (h : 0 < idle) : ∀ l : List Conn, l.flatMap (idleT idle) = (l.filter Conn.quiet).map fun c => c.heard + idle
  | [] => rfl
  | a :: r => by
    rw [List.flatMap_cons, flat_idle idle h r, List.filter_cons]
    unfold idleT
    rw [if_neg (by omega)]
    split
    · rfl
    · rfl
theorem dues_perm {s : Server} {r : Rules} (er : s.rules = some r) : s.dues.Perm (s.conns.flatMap (timesC r) ++ s.ends.toList.filter fun e => decide (s.now < e)) := by
  unfold Server.dues
  rw [er]
  dsimp only
  refine List.Perm.append_right _ ?_
  refine List.Perm.trans ?_ (flat_perm (lateT r.limit) (idleT r.idle) s.conns).symm
  have e1 : (if 0 < r.limit then s.conns.flatMap fun c => c.working.map (fun w => w.2 + r.limit) ++ c.waiting.map (fun q => q.since + r.limit) else []) = s.conns.flatMap (lateT r.limit) := by
    by_cases h : 0 < r.limit
    · rw [if_pos h]
      have : lateT r.limit = fun c => c.working.map (fun w => w.2 + r.limit) ++ c.waiting.map (fun q => q.since + r.limit) := by funext c; unfold lateT; rw [if_neg (by omega)]
      rw [this]
    · rw [if_neg h]
      have : lateT r.limit = fun _ => [] := by funext c; unfold lateT; rw [if_pos (by omega)]
      rw [this, flat_zero]
  have e2 : (if 0 < r.idle then (s.conns.filter Conn.quiet).map fun c => c.heard + r.idle else []) = s.conns.flatMap (idleT r.idle) := by
    by_cases h : 0 < r.idle
    · rw [if_pos h, flat_idle _ h]
    · rw [if_neg h]
      have : idleT r.idle = fun _ => [] := by funext c; unfold idleT; rw [if_pos (by omega)]
      rw [this, flat_zero]
  rw [e1, e2]
theorem times_len (r : Rules) (x : Conn) : (timesC r x).length ≤ held x + 1 := by
  unfold timesC lateT idleT held
  rw [List.length_append]
  have h1 : (if r.limit = 0 then [] else x.working.map (fun w => w.2 + r.limit) ++ x.waiting.map (fun q => q.since + r.limit)).length ≤ x.waiting.length + x.working.length := by
    split
    · exact Nat.zero_le _
    · rw [List.length_append, List.length_map, List.length_map]; omega
  have h2 : (if r.idle = 0 then [] else if x.quiet = true then [x.heard + r.idle] else []).length ≤ 1 := by
    split
    · exact Nat.zero_le _
    · split
      · exact Nat.le_refl _
      · exact Nat.zero_le _
  omega
theorem times_all (r : Rules) : ∀ l : List Conn, (l.flatMap (timesC r)).length ≤ (l.map held).sum + l.length
  | [] => Nat.le_refl _
  | a :: l => by
    rw [List.flatMap_cons, List.length_append, List.map_cons, List.sum_cons, List.length_cons]
    have := times_len r a
    have := times_all r l
    omega
theorem perm_flat {α β : Type} (f : α → List β) {l m : List α} (h : l.Perm m) : (l.flatMap f).Perm (m.flatMap f) := by
  induction h with
  | nil => exact List.Perm.refl _
  | cons x _ ih => rw [List.flatMap_cons, List.flatMap_cons]; exact ih.append_left _
  | swap x y l =>
    rw [List.flatMap_cons, List.flatMap_cons, List.flatMap_cons, List.flatMap_cons, ← List.append_assoc, ← List.append_assoc]
    exact List.Perm.append_right _ List.perm_append_comm
  | trans _ _ a b => exact a.trans b
theorem foldl_min : ∀ (l : List Nat) (t : Nat), (l.foldl min t ∈ t :: l) ∧ ∀ y ∈ t :: l, l.foldl min t ≤ y
  | [], t => ⟨List.mem_cons_self, fun y hy => by rw [List.mem_singleton.mp hy]; exact Nat.le_refl _⟩
  | a :: r, t => by
    obtain ⟨h1, h2⟩ := foldl_min r (min t a)
    rw [List.foldl_cons]
    have h3 := h2 (min t a) List.mem_cons_self
    refine ⟨?_, fun y hy => ?_⟩
    · rcases List.mem_cons.mp h1 with e | e
      · rw [e]
        rcases Nat.le_total t a with q | q
        · rw [Nat.min_eq_left q]; exact List.mem_cons_self
        · rw [Nat.min_eq_right q]; exact List.mem_cons_of_mem _ List.mem_cons_self
      · exact List.mem_cons_of_mem _ (List.mem_cons_of_mem _ e)
    · rcases List.mem_cons.mp hy with e | e
      · rw [e]; exact Nat.le_trans h3 (Nat.min_le_left _ _)
      · rcases List.mem_cons.mp e with e | e
        · rw [e]; exact Nat.le_trans h3 (Nat.min_le_right _ _)
        · exact h2 y (List.mem_cons_of_mem _ e)
theorem sinceK {c : Cl} {o : Own} {H : Hp} {k : Nat} {l : List Addr} {m : List (Nat × Nat)} (h : Paired (WorkAt c o H k) l m) : ∃ xs : List (Addr × Nat), l.map V.ref = refs xs ∧ xs.map (·.2) = m.map (·.2) ∧ ReqSince c.CR H xs ∧ xs.length = m.length := by
  obtain ⟨ps, e1, e2, e3⟩ := paired_zip h
  refine ⟨ps.map fun p => (p.1, p.2.2), ?_, ?_, ?_, ?_⟩
  · unfold refs; rw [e1, List.map_map, List.map_map]; rfl
  · rw [e2, List.map_map, List.map_map]; rfl
  · intro y hy
    obtain ⟨p, hp, rfl⟩ := List.mem_map.mp hy
    obtain ⟨d1, c1, a1, h1⟩ := (e3 p hp).ob
    exact ⟨d1, p.2.1, c1, a1, h1⟩
  · rw [e2, List.length_map, List.length_map]
theorem sinceW {c : Cl} {o : Own} {H : Hp} {k : Nat} {l : List Addr} {m : List Req} (h : Paired (WaitAt c o H k) l m) : ∃ xs : List (Addr × Nat), l.map V.ref = refs xs ∧ xs.map (·.2) = m.map (·.since) ∧ ReqSince c.CR H xs ∧ xs.length = m.length := by
  obtain ⟨ps, e1, e2, e3⟩ := paired_zip h
  refine ⟨ps.map fun p => (p.1, p.2.since), ?_, ?_, ?_, ?_⟩
  · unfold refs; rw [e1, List.map_map, List.map_map]; rfl
  · rw [e2, List.map_map, List.map_map]; rfl
  · intro y hy
    obtain ⟨p, hp, rfl⟩ := List.mem_map.mp hy
    obtain ⟨d1, a1, h1, _⟩ := (e3 p hp).ob
    exact ⟨d1, p.2.id, p.2.cost, a1, h1⟩
  · rw [e2, List.length_map, List.length_map]
section
variable {P : Program} {w : World} {K : PySem.W.Frag} {mg : Str → Option Value} {base : Heap} {t : Adr}
def sp_request_numbers (t : Adr) : Sp := fun vs H Q _ => ∃ (l : Addr) (xs : List (Addr × Nat)), vs = [.ref l] ∧ H l = some (.lst (refs xs)) ∧ ReqNo t.CRequest H xs ∧ xs.length < sizeLine ∧ ∀ D, H D = none → Q (.ref D) (upd H D (.lst ((xs.map (·.2)).map nv)))
theorem ok_request_numbers (T : Txt K mg t) : FnOk P w K mg base CX0 1 t.frequest_numbers t.drequest_numbers ["requests"] (sp_request_numbers t) := by
  refine T.Frequest_numbers.ok sc_request_numbers (fun vs H Q E h => ?_) (fun cdv A outer s H vs Q E hr h => ?_)
  · obtain ⟨l, xs, rfl, _⟩ := h; rfl
  · obtain ⟨l, xs, rfl, hl, hx, hz, k⟩ := h
    refine ⟨_, (pss_one (ps_ret (pe_lc (own := [("request", 1)]) rfl sc_request_numbers.nd (pi_list (pv 0)) (blkOk_by (by rfl)) (by intros; exact pg_name (i := 1) sc_request_numbers.nd rfl (Or.inl rfl)) (by intros; exact pts_nil) (by intros; exact (pe_fldk K (pv 1) rfl))))), ?_⟩
    refine ⟨_, rfl, l, rfl, ⟨_, SqL.of hl⟩, fun D hD => lc_some (K := K) (ys := xs) (v := fun y => V.ref y.1) (f := fun y => nv y.2) (p := fun _ => true) hl hD hz ?_ ?_⟩
    · rintro y H2 N hm hk h1 h2
      obtain ⟨dx, c, da, s, hy⟩ := hx y hm
      refine ⟨rfl, tYes_if ?_⟩
      exact ⟨_, rfl, y.1, _, _, _, _, rfl, hk _ _ hy, T.clRequest, T.nRequest_number, rfl, h1 rfl⟩
    · rw [show xs.filter (fun _ => true) = xs from List.filter_eq_self.mpr fun _ _ => rfl]
      have := k D hD
      rw [List.map_map] at this
      exact this
def sp_late_times (t : Adr) : Sp := fun vs H Q _ => ∃ (a dx wa ka : Addr) (ad we cr he ch lo limit : Nat) (xs ys : List (Addr × Nat)), vs = [.ref a, nv limit] ∧ H a = some (.ins t.CGuest dx (gf ad we cr wa ka he ch lo)) ∧ H ka = some (.lst (refs xs)) ∧ H wa = some (.lst (refs ys)) ∧ ReqSince t.CRequest H xs ∧ ReqSince t.CRequest H ys ∧
  xs.length + ys.length < 1000000 ∧ ∀ (H' : Hp) (D : Addr), Grow H H' → H D = none → H' D = some (.lst ((if limit = 0 then [] else xs.map (fun y => y.2 + limit) ++ ys.map (fun y => y.2 + limit)).map nv)) → Q (.ref D) H'
theorem ok_late_times (T : Txt K mg t) : FnOk P w K mg base CX0 1 t.flate_times t.dlate_times ["guest", "limit"] (sp_late_times t) := by
  refine T.Flate_times.ok sc_late_times (fun vs H Q E h => ?_) (fun cdv A outer s H vs Q E hr h => ?_)
  · obtain ⟨a, dx, wa, ka, ad, we, cr, he, ch, lo, limit, xs, ys, rfl, _⟩ := h; rfl
  · obtain ⟨a, dx, wa, ka, ad, we, cr, he, ch, lo, limit, xs, ys, rfl, ha, hk, hw, rk, rw_, hz, k⟩ := h
    refine ⟨_, (pss_cons (ps_if (pt_cmpR op_eq (pv 1) pe_int (nomark _)) (pss_one (ps_ret (pe_lst pa_nil))) pss_nil)
      (pss_one (ps_ret (pe_lc (own := [("request", 2)]) rfl sc_late_times.nd (pi_list (pe_op op_cat (pe_fld (pv 0) rfl) (pe_fld (pv 0) rfl))) (blkOk_by (by rfl)) (by intros; exact pg_name (i := 2) sc_late_times.nd rfl (Or.inl rfl)) (by intros; exact pts_nil) (by intros; exact (pe_op op_add (pe_fldk K (pv 2) rfl) (pv 1))))))), ?_⟩
    refine ⟨_, rfl, rfl, _, rfl, ?_⟩
    refine ite2 (fun z => ?_) (fun z => ?_)
    · have z1 : limit = 0 := by have := V.int.inj (of_decide_eq_true z); omega
      rw [if_pos z1] at k
      exact ⟨(by show 0 ≤ sizeLine; exact Nat.zero_le _), fun D hD => k _ D (Grow.new hD) hD upd_same⟩
    · have z1 : ¬ limit = 0 := fun y => z (decide_eq_true (by rw [y]; rfl))
      rw [if_neg z1] at k
      have lk : (refs xs).length = xs.length := by unfold refs; rw [List.length_map]
      have lw : (refs ys).length = ys.length := by unfold refs; rw [List.length_map]
      refine ⟨_, rfl, a, _, dx, _, _, rfl, ha, T.clGuest, T.nGuest_working, rfl, _, rfl, a, _, dx, _, _, rfl, ha, T.clGuest, T.nGuest_waiting, rfl, ka, wa, _, _, rfl, rfl, hk, hw, (by rw [lk, lw]; show _ ≤ 16777216; omega), fun E1 hE1 => ?_⟩
      have g1 : Grow H (upd H E1 (.lst (refs xs ++ refs ys))) := Grow.new hE1
      refine ⟨E1, rfl, ⟨_, SqL.of upd_same⟩, fun D hD => lc_some (K := K) (ys := xs ++ ys) (v := fun y => V.ref y.1) (f := fun y => V.int ((y.2 : Int) + (limit : Int))) (p := fun _ => true) (by rw [upd_same]; unfold refs; rw [List.map_append]) hD (by rw [List.length_append]; show _ < 16777216; omega) ?_ ?_⟩
      · rintro y H2 N hm hg h1 h2
        have hy : ∃ dx n c da, H y.1 = some (.ins t.CRequest dx (qf n c da y.2)) := (List.mem_append.mp hm).elim (rk y) (rw_ y)
        obtain ⟨d1, n1, c1, a1, hy⟩ := hy
        refine ⟨rfl, tYes_if ?_⟩
        exact ⟨_, rfl, y.1, _, _, _, _, rfl, hg _ _ (g1 _ _ hy), T.clRequest, T.nRequest_since, rfl, _, rfl, _, _, rfl, rfl, h1 rfl⟩
      · rw [show (xs ++ ys).filter (fun _ => true) = xs ++ ys from List.filter_eq_self.mpr fun _ _ => rfl]
        refine k _ D (g1.trans (Grow.new hD)) (g1.none hD) ?_
        rw [upd_same, List.map_append, List.map_append, List.map_map, List.map_map]
        rfl
def sp_idle_times (t : Adr) : Sp := fun vs H Q _ => ∃ (a dx wa ka : Addr) (ad we cr he ch lo idle : Nat) (xs ys : List V), vs = [.ref a, nv idle] ∧ H a = some (.ins t.CGuest dx (gf ad we cr wa ka he ch lo)) ∧ H wa = some (.lst xs) ∧ H ka = some (.lst ys) ∧
  ∀ (H' : Hp) (D : Addr), Grow H H' → H D = none → H' D = some (.lst ((if idle = 0 then [] else if (xs.isEmpty && ys.isEmpty) = true then [he + idle] else []).map nv)) → Q (.ref D) H'
theorem ok_idle_times (T : Txt K mg t) : FnOk P w K mg base CX0 2 t.fidle_times t.didle_times ["guest", "idle"] (sp_idle_times t) := by
  have G_is_quiet : FnOk P w K mg base CX0 1 t.fis_quiet t.dis_quiet ["guest"] (sp_is_quiet t) := ok_is_quiet T
  refine T.Fidle_times.ok sc_idle_times (fun vs H Q E h => ?_) (fun cdv A outer s H vs Q E hr h => ?_)
  · obtain ⟨a, dx, wa, ka, ad, we, cr, he, ch, lo, idle, xs, ys, rfl, _⟩ := h; rfl
  · obtain ⟨a, dx, wa, ka, ad, we, cr, he, ch, lo, idle, xs, ys, rfl, ha, hw, hk, k⟩ := h
    refine ⟨_, (pss_cons (ps_if (PW.pt (pw_or (pt_cmpR op_eq (pv 1) pe_int (nomark _)) (pw_or1 (pt_not (pt_val (pe_call G_is_quiet hr rfl T.mis_quiet T.Fis_quiet.kp T.bis_quiet .nil pass0 (pa_cons (pv 0) pa_nil))))))) (pss_one (ps_ret (pe_lst pa_nil))) pss_nil)
      (pss_one (ps_ret (pe_lst (pa_cons (pe_op op_add (pe_fld (pv 0) rfl) (pv 1)) pa_nil))))), ?_⟩
    refine ⟨_, rfl, rfl, _, rfl, ?_⟩
    refine ite2 (fun z => ?_) (fun z => ?_)
    · have z1 : idle = 0 := by have := V.int.inj (of_decide_eq_true z); omega
      rw [if_pos z1] at k
      exact iteT ⟨(by show 0 ≤ sizeLine; exact Nat.zero_le _), fun D hD => k _ D (Grow.new hD) hD upd_same⟩
    · have z1 : ¬ idle = 0 := fun y => z (decide_eq_true (by rw [y]; rfl))
      rw [if_neg z1] at k
      refine ⟨_, rfl, a, dx, wa, ka, ad, we, cr, he, ch, lo, xs, ys, rfl, ha, hw, hk, _, rfl, ?_⟩
      cases q : (xs.isEmpty && ys.isEmpty) with
      | false =>
        rw [q] at k
        exact iteT ⟨(by show 0 ≤ sizeLine; exact Nat.zero_le _), fun D hD => k _ D (Grow.new hD) hD upd_same⟩
      | true =>
        rw [q] at k
        exact iteF ⟨_, rfl, a, _, dx, _, _, rfl, ha, T.clGuest, T.nGuest_heard_at, rfl, _, rfl, _, _, rfl, rfl, (by show 1 ≤ sizeLine; decide), fun D hD => k _ D (Grow.new hD) hD upd_same⟩
end
end Fd
end
section
namespace Fd
open PySem L2 Sw55
def timesG (s : Server) (g : GA) : List Nat := match s.rules, ofG s g with
  | some r, some x => timesC r x
  | _, _ => []
theorem timesG_of {s : Server} {g : GA} {r : Rules} {x : Conn} (er : s.rules = some r) (ex : ofG s g = some x) : timesG s g = timesC r x := by
  unfold timesG
  rw [er, ex]
theorem times_perm {c : Cl} {o : Own} {H : Hp} {A : SA} {s : Server} {W : List Want} (R : Rep c o H A s W) (ok : Ok0 s) : (A.gs.flatMap (timesG s) ++ s.ends.toList.filter fun e => decide (s.now < e)).Perm s.dues := by
  cases er : s.rules with
  | none =>
    obtain ⟨e1, e2⟩ := ok.non er
    have e3 : A.gs = [] := by
      have := R.count
      rw [e1] at this
      exact List.length_eq_zero_iff.mp this
    rw [e3, e2]
    unfold Server.dues
    rw [er]
    exact List.Perm.refl _
  | some r =>
    refine List.Perm.trans ?_ (dues_perm er).symm
    refine List.Perm.append_right _ ?_
    obtain ⟨xs, p, q⟩ := R.pairs ok.srt
    have e : A.gs.map (timesG s) = xs.map (timesC r) := paired_map p fun g x z => timesG_of er (by unfold ofG; rw [z.1.nm]; exact pick_of_mem ok.srt z.2)
    have e2 : A.gs.flatMap (timesG s) = xs.flatMap (timesC r) := by rw [List.flatMap_def, List.flatMap_def, e]
    rw [e2]
    exact perm_flat _ q
theorem times_small {c : Cl} {o : Own} {H : Hp} {A : SA} {s : Server} {W : List Want} (R : Rep c o H A s W) (ok : Ok0 s) : (A.gs.flatMap (timesG s)).length ≤ s.asked + 64 := by
  cases er : s.rules with
  | none =>
    have e3 : A.gs = [] := by
      have := R.count
      rw [(ok.non er).1] at this
      exact List.length_eq_zero_iff.mp this
    rw [e3]
    exact Nat.zero_le _
  | some r =>
    obtain ⟨xs, p, q⟩ := R.pairs ok.srt
    have e : A.gs.map (timesG s) = xs.map (timesC r) := paired_map p fun g x z => timesG_of er (by unfold ofG; rw [z.1.nm]; exact pick_of_mem ok.srt z.2)
    have e2 : A.gs.flatMap (timesG s) = xs.flatMap (timesC r) := by rw [List.flatMap_def, List.flatMap_def, e]
    rw [e2, (perm_flat (timesC r) q).length_eq]
    have h1 := times_all r s.conns
    have h2 := ok.cnt
    have h3 := ok.len
    omega
section
variable {P : Program} {w : World} {K : PySem.W.Frag} {mg : Str → Option Value} {base : Heap} {t : Adr}
def sp_due_times (t : Adr) : Sp := fun vs H Q _ => ∃ (o : Own) (A : SA) (s : Server) (W : List Want), vs = [.ref A.p] ∧ Rep (clOf t) o H A s W ∧ Ok0 s ∧ s.asked < 100000 ∧ ∀ (H' : Hp) (D : Addr) (ts : List Nat), Grow H H' → H D = none → ts.Perm s.dues → ts.length ≤ 1000000 → H' D = some (.lst (ts.map nv)) → Q (.ref D) H'
theorem ok_due_times (T : Txt K mg t) : FnOk P w K mg base CX0 3 t.fdue_times t.ddue_times ["server"] (sp_due_times t) := by
  have G_is_grace_over : FnOk P w K mg base CX0 2 t.fis_grace_over t.dis_grace_over ["server"] (sp_is_grace_over t) := (ok_is_grace_over T).mono (by decide)
  have G_late_times : FnOk P w K mg base CX0 2 t.flate_times t.dlate_times ["guest", "limit"] (sp_late_times t) := (ok_late_times T).mono (by decide)
  have G_idle_times : FnOk P w K mg base CX0 2 t.fidle_times t.didle_times ["guest", "idle"] (sp_idle_times t) := ok_idle_times T
  refine T.Fdue_times.ok sc_due_times (fun vs H Q E h => ?_) (fun cdv A outer s H vs Q E hr h => ?_)
  · obtain ⟨o, A, s, W, rfl, _⟩ := h; rfl
  · obtain ⟨o, A, s, W, rfl, R, ok, has, k⟩ := h
    refine ⟨_, (pss_cons (ps_set (i := 1) sc_due_times.nd rfl (Or.inl rfl) (pe_lst pa_nil))
      (pss_cons (ps_lock (ps_for PassesOwn.never rfl (pi_values (pe_fld (pv 0) rfl)) (pg_name (i := 2) sc_due_times.nd rfl (Or.inl rfl)) (pss_cons (ps_expr (pe_bm PySem.F.plainAttrs_list PySem.F.slot_list_extend PySem.F.type_list_extend mt_extend (pv 1) (pa_cons (pe_call G_late_times hr rfl T.mlate_times T.Flate_times.kp T.blate_times .nil pass0 (pa_cons (pv 2) (pa_cons (pe_fld (pe_fld (pv 0) rfl) rfl) pa_nil))) pa_nil)))
      (pss_one (ps_expr (pe_bm PySem.F.plainAttrs_list PySem.F.slot_list_extend PySem.F.type_list_extend mt_extend (pv 1) (pa_cons (pe_call G_idle_times hr rfl T.midle_times T.Fidle_times.kp T.bidle_times .nil pass0 (pa_cons (pv 2) (pa_cons (pe_fld (pe_fld (pv 0) rfl) rfl) pa_nil))) pa_nil)))))))
      (pss_cons (ps_if (PW.pt (pw_and (pt_val (pe_fld (pv 0) rfl)) (pw_and1 (pt_not (pt_val (pe_call G_is_grace_over hr rfl T.mis_grace_over T.Fis_grace_over.kp T.bis_grace_over .nil pass0 (pa_cons (pv 0) pa_nil))))))) (pss_one (ps_expr (pe_bm PySem.F.plainAttrs_list PySem.F.slot_list_append PySem.F.type_list_append mt_append (pv 1) (pa_cons (pe_fld (pv 0) rfl) pa_nil)))) pss_nil)
      (pss_one (ps_ret (pv 1)))))), ?_⟩
    refine ⟨(by show 0 ≤ sizeLine; exact Nat.zero_le _), fun l hl0 => ?_⟩
    have g1 : Grow H (upd H l (.lst [])) := Grow.new hl0
    have ol : o l = .out := R.free hl0
    have hl1 : (upd H l (.lst [])) l = some (.lst []) := upd_same
    have R1 := R.grow g1
    generalize (upd H l (.lst [])) = H1 at g1 R1 hl1
    have nld : l ≠ A.d := ne_role ol R.od (by intro q; cases q)
    have npd : A.p ≠ A.d := ne_role R.os R.od (by intro q; cases q)
    have npl : A.p ≠ l := ne_role R.os ol (by intro q; cases q)
    obtain ⟨dx, ge, hp, hge⟩ := R1.sv
    have small := times_small R ok
    refine ⟨A.d, _, R1.di, trivial, fun od => ?_⟩
    have gl : ∀ {b : Addr} {u : HO}, H1 b = some u → b ≠ A.d → (upd H1 A.d (.frz od (.dK (dictOf A.gs)))) b = some u := fun hb n => by rw [upd_ne n]; exact hb
    refine ⟨_, rfl, A.p, _, dx, _, _, rfl, gl hp npd, T.clServer, T.nServer_inside, rfl, A.d, od, dictOf A.gs, rfl, upd_same, for_vals (d := A.d) (ob := od) (kvs := dictOf A.gs)
      (fun i σ H2 => ∃ v : Option V, σ = [some (.ref A.p), some (.ref l), v] ∧ H2 A.d = some (.frz od (.dK (dictOf A.gs))) ∧ H2 l = some (.lst (((A.gs.take i).flatMap (timesG s)).map nv)) ∧ ∀ b u, H1 b = some u → b ≠ A.d → b ≠ l → H2 b = some u)
      ⟨none, rfl, upd_same, by rw [upd_ne nld]; exact hl1, fun b u hb n _ => gl hb n⟩ (fun i σ H2 ⟨_, _, h, _⟩ => h) ?_ ?_⟩
    · rintro i kx xv σ H2 hi ⟨v, rfl, hd2, hl2, old2⟩
      unfold dictOf at hi
      rw [List.getElem?_map] at hi
      obtain ⟨g, hgi, eg⟩ := Option.map_eq_some_iff.mp hi
      have exv : xv = V.ref g.a := (congrArg Prod.snd eg).symm
      subst exv
      have hg := List.mem_of_getElem? hgi
      obtain ⟨x, hx, z, eo⟩ := R1.ofG ok.srt hg
      obtain ⟨r, er⟩ : ∃ r, s.rules = some r := by
        cases er : s.rules with
        | none => rw [(ok.non er).1] at hx; cases hx
        | some r => exact ⟨r, rfl⟩
      obtain ⟨dx1, ge1, dz1, hp1, _, hu1, ou1⟩ := R1.rules er
      obtain ⟨dy, ch, lo, hga, _⟩ := z.ob
      obtain ⟨xs, x1, x2, x3, x4⟩ := sinceK z.kr
      obtain ⟨ys, y1, y2, y3, y4⟩ := sinceW z.wr
      have ts := take_succ_of hgi
      have hh := held_le ok hx
      have role2 : ∀ {b : Addr} {u : HO} {ro : Role}, H1 b = some u → o b = ro → ro ≠ .dict → ro ≠ .out → H2 b = some u := fun hb e n1 n2 => old2 _ _ hb (ne_role e R.od n1) (ne_role e ol n2)
      have hga2 := role2 hga z.oa (by intro q; cases q) (by intro q; cases q)
      have hkl2 := role2 z.kl z.ok (by intro q; cases q) (by intro q; cases q)
      have hwl2 := role2 z.wl z.ow (by intro q; cases q) (by intro q; cases q)
      have hp2 := role2 hp1 R.os (by intro q; cases q) (by intro q; cases q)
      have hu2 := role2 hu1 ou1 (by intro q; cases q) (by intro q; cases q)
      have hkl2' := hkl2
      have hwl2' := hwl2
      rw [x1] at hkl2'
      rw [y1] at hwl2'
      have notl : ∀ {y : Addr} {dx : Addr} {n c : Nat} {da : Addr} {sc : Nat}, H1 y = some (.ins t.CRequest dx (qf n c da sc)) → H2 y = some (.ins t.CRequest dx (qf n c da sc)) := fun {y dx n c da sc} hy => old2 _ _ hy (fun e => by rw [e, R1.di] at hy; cases hy) (fun e => by rw [e, hl1] at hy; cases hy)
      have rk : ReqSince t.CRequest H2 xs := fun y hy => by
        obtain ⟨a1, a2, a3, a4, a5⟩ := x3 y hy
        exact ⟨a1, a2, a3, a4, notl a5⟩
      have rw_ : ReqSince t.CRequest H2 ys := fun y hy => by
        obtain ⟨a1, a2, a3, a4, a5⟩ := y3 y hy
        exact ⟨a1, a2, a3, a4, notl a5⟩
      have elate : (if r.limit = 0 then [] else xs.map (fun y => y.2 + r.limit) ++ ys.map (fun y => y.2 + r.limit)) = lateT r.limit x := by
        unfold lateT
        have h1 : xs.map (fun y => y.2 + r.limit) = x.working.map fun w => w.2 + r.limit := by
          have := congrArg (List.map (· + r.limit)) x2
          rw [List.map_map, List.map_map] at this
          exact this
        have h2 : ys.map (fun y => y.2 + r.limit) = x.waiting.map fun q => q.since + r.limit := by
          have := congrArg (List.map (· + r.limit)) y2
          rw [List.map_map, List.map_map] at this
          exact this
        rw [h1, h2]
      have eidle : (if r.idle = 0 then [] else if ((g.wq.map V.ref).isEmpty && (g.kq.map V.ref).isEmpty) = true then [x.heard + r.idle] else []) = idleT r.idle x := by
        unfold idleT
        have eq : ((g.wq.map V.ref).isEmpty && (g.kq.map V.ref).isEmpty) = x.quiet := by
          unfold Conn.quiet
          have l1 := z.wr.length
          have l2 := z.kr.length
          congr 1
          · rw [Bool.eq_iff_iff, List.isEmpty_iff_length_eq_zero, List.isEmpty_iff_length_eq_zero, List.length_map, l1]
          · rw [Bool.eq_iff_iff, List.isEmpty_iff_length_eq_zero, List.isEmpty_iff_length_eq_zero, List.length_map, l2]
        rw [eq]
      have etg : timesG s g = lateT r.limit x ++ idleT r.idle x := timesG_of er eo
      have lnow : ((A.gs.take i).flatMap (timesG s)).length + (lateT r.limit x ++ idleT r.idle x).length ≤ s.asked + 64 := by
        have e4 : A.gs.flatMap (timesG s) = (A.gs.take (i + 1)).flatMap (timesG s) ++ (A.gs.drop (i + 1)).flatMap (timesG s) := by rw [← List.flatMap_append, List.take_append_drop]
        rw [e4, ts, List.flatMap_append, List.length_append, List.length_append] at small
        have e5 : [g].flatMap (timesG s) = lateT r.limit x ++ idleT r.idle x := by rw [List.flatMap_cons, List.flatMap_nil, List.append_nil, etg]
        rw [e5] at small
        omega
      rw [List.length_append] at lnow
      refine ⟨_, rfl, .inl ⟨rfl, _, SqL.of hl2⟩, _, rfl, _, rfl, A.p, _, dx1, _, _, rfl, hp2, T.clServer, T.nServer_rules, rfl, A.u, _, dz1, _, _, rfl, hu2, T.clRules, T.nRules_limit, rfl, g.a, dy, g.wa, g.ka, _, _, _, _, _, _, r.limit, xs, ys, rfl, hga2, hkl2', hwl2', rk, rw_, by omega, fun H3 D3 g3 hD3 h3 => ?_⟩
      rw [elate] at h3
      refine ⟨l, D3, _, _, rfl, rfl, g3 _ _ hl2, h3, (by rw [List.length_map, List.length_map]; show _ ≤ 16777216; omega), ?_⟩
      have nl3 : ∀ {b : Addr} {u u2 : HO}, H2 b = some u → b ≠ l → (upd H3 l u2) b = some u := fun hb n => by rw [upd_ne n]; exact g3 _ _ hb
      have nlg : g.a ≠ l := ne_role z.oa ol (by intro q; cases q)
      have nlw : g.wa ≠ l := ne_role z.ow ol (by intro q; cases q)
      have nlk : g.ka ≠ l := ne_role z.ok ol (by intro q; cases q)
      have nlu : A.u ≠ l := ne_role ou1 ol (by intro q; cases q)
      refine ⟨_, rfl, .inl ⟨rfl, _, SqL.of upd_same⟩, _, rfl, _, rfl, A.p, _, dx1, _, _, rfl, nl3 hp2 npl, T.clServer, T.nServer_rules, rfl, A.u, _, dz1, _, _, rfl, nl3 hu2 nlu, T.clRules, T.nRules_idle, rfl, g.a, dy, g.wa, g.ka, _, _, _, _, _, _, r.idle, _, _, rfl, nl3 hga2 nlg, nl3 hwl2 nlw, nl3 hkl2 nlk, fun H4 D4 g4 hD4 h4 => ?_⟩
      rw [eidle] at h4
      refine ⟨l, D4, _, _, rfl, rfl, g4 _ _ upd_same, h4, (by rw [List.length_append, List.length_map, List.length_map, List.length_map]; show _ ≤ 16777216; omega), ?_⟩
      refine ⟨some (V.ref g.a), rfl, ?_, ?_, ?_⟩
      · rw [upd_ne nld.symm]; exact g4 _ _ (nl3 hd2 nld.symm)
      · rw [upd_same, ts, List.flatMap_append, List.flatMap_cons, List.flatMap_nil, List.append_nil, etg, List.map_append, List.map_append, List.append_assoc]
      · intro b u hb n1 n2
        rw [upd_ne n2]
        exact g4 _ _ (nl3 (old2 b u hb n1 n2) n2)
    · rintro σ H2 ⟨v, rfl, hd2, hl2, old2⟩
      have elen : (dictOf A.gs).length = A.gs.length := by unfold dictOf; rw [List.length_map]
      rw [elen, List.take_length] at hl2
      refine ⟨hd2, ?_⟩
      have g3 : Grow H (upd H2 A.d (.dK (dictOf A.gs))) := fun b u hb => by
        by_cases e : b = A.d
        · rw [e, R.di] at hb
          cases hb
          rw [e]; exact upd_same
        · rw [upd_ne e]
          exact old2 b u (g1 b u hb) e (ne_of_none hb hl0)
      have hl3 : (upd H2 A.d (.dK (dictOf A.gs))) l = some (.lst ((A.gs.flatMap (timesG s)).map nv)) := by rw [upd_ne nld]; exact hl2
      have R3 := R.grow g3
      generalize (upd H2 A.d (.dK (dictOf A.gs))) = H3 at g3 hl3 R3
      obtain ⟨dx3, ge3, hp3, hge3⟩ := R3.sv
      have perm := times_perm R ok
      refine ⟨_, rfl, A.p, _, dx3, _, _, rfl, hp3, T.clServer, T.nServer_ending, rfl, _, rfl, ?_⟩
      cases ee : s.ends with
      | none =>
        rw [ee] at perm
        refine iteF (iteF ?_)
        refine ⟨_, rfl, k H3 l (A.gs.flatMap (timesG s)) g3 hl0 ?_ (by omega) hl3⟩
        have : (none : Option Nat).toList.filter (fun e => decide (s.now < e)) = [] := rfl
        rw [this, List.append_nil] at perm
        exact perm
      | some e =>
        rw [ee] at perm
        refine iteT ?_
        refine ⟨_, rfl, o, A, s, W, rfl, R3, _, rfl, ?_⟩
        have eg : graceOver s = decide (e ≤ s.now) := by unfold graceOver; rw [ee]
        rw [eg]
        by_cases q : e ≤ s.now
        · rw [decide_eq_true q]
          refine iteF ?_
          refine ⟨_, rfl, k H3 l (A.gs.flatMap (timesG s)) g3 hl0 ?_ (by omega) hl3⟩
          have : (some e : Option Nat).toList.filter (fun e => decide (s.now < e)) = [] := by
            show [e].filter _ = []
            rw [List.filter_cons_of_neg (by simpa using q)]
            rfl
          rw [this, List.append_nil] at perm
          exact perm
        · rw [decide_eq_false q]
          refine iteT ?_
          refine ⟨_, rfl, .inl ⟨rfl, _, SqL.of hl3⟩, _, rfl, A.p, _, dx3, _, _, rfl, hp3, T.clServer, T.nServer_grace_end, rfl, l, _, _, rfl, rfl, hl3, (by rw [List.length_map]; show _ < 16777216; omega), ?_⟩
          rw [hge3 e ee]
          refine ⟨_, rfl, k _ l (A.gs.flatMap (timesG s) ++ [e]) ?_ hl0 ?_ (by rw [List.length_append]; show _ + 1 ≤ _; omega) ?_⟩
          · intro b u hb
            rw [upd_ne (ne_of_none hb hl0)]
            exact g3 b u hb
          · have : (some e : Option Nat).toList.filter (fun e => decide (s.now < e)) = [e] := by
              show [e].filter _ = [e]
              rw [List.filter_cons_of_pos (by rw [decide_eq_true_iff]; omega)]
              rfl
            rw [this] at perm
            exact perm
          · rw [upd_same, List.map_append]
            rfl
def Tells (H : Hp) (v : Int) (l : List Nat) (Q : VK) : Prop := ∀ (H' : Hp) (D : Addr), Grow H H' → H D = none → H' D = some (.lst (V.int v :: l.map nv)) → Q (.ref D) H'
def sp_tell_due (t : Adr) : Sp := fun vs H Q _ => ∃ (o : Own) (A : SA) (s : Server) (W : List Want), vs = [.ref A.p] ∧ Rep (clOf t) o H A s W ∧ Ok0 s ∧ s.asked < 100000 ∧ Tells H (Sw55.step s .due).2.v (Sw55.step s .due).2.l Q
theorem ok_tell_due (T : Txt K mg t) : FnOk P w K mg base CX0 4 t.ftell_due t.dtell_due ["server"] (sp_tell_due t) := by
  have G_due_times : FnOk P w K mg base CX0 3 t.fdue_times t.ddue_times ["server"] (sp_due_times t) := ok_due_times T
  refine T.Ftell_due.ok sc_tell_due (fun vs H Q E h => ?_) (fun cdv A outer s H vs Q E hr h => ?_)
  · obtain ⟨o, A, s, W, rfl, _⟩ := h; rfl
  · obtain ⟨o, A, s, W, rfl, R, ok, has, k⟩ := h
    refine ⟨_, (pss_cons (ps_set (i := 1) sc_tell_due.nd rfl (Or.inl rfl) (pe_call G_due_times hr rfl T.mdue_times T.Fdue_times.kp T.bdue_times .nil pass0 (pa_cons (pv 0) pa_nil)))
      (pss_cons (ps_if (pt_cmpR op_eq (pe_callB call_len_seq (by rfl) T.len PySem.boot_len (pa_cons (pv 1) pa_nil)) pe_int (nomark _)) (pss_one (ps_ret (pe_lst (pa_cons pe_int pa_nil)))) pss_nil)
      (pss_one (ps_ret (pe_lst (pa_cons pe_int (pa_cons (pe_callB (cr_min rfl) (by rfl) T.min PyProof.Rows.boot_min (pa_cons (pv 1) pa_nil)) pa_nil))))))), ?_⟩
    have es : (Sw55.step s .due).2 = match s.dues with
      | [] => ⟨0, [], []⟩
      | t :: l => ⟨1, [l.foldl min t], []⟩ := rfl
    rw [es] at k
    refine ⟨_, rfl, o, A, s, W, rfl, R, ok, has, fun H1 D ts g1 hD0 pm hts hD => ?_⟩
    refine ⟨_, rfl, D, _, rfl, .inl (SqL.of hD), rfl, _, rfl, ?_⟩
    show if decide (V.int ((ts.map nv).length : Int) = V.int 0) = true then _ else _
    rw [len_zero]
    refine ite2 (fun z => ?_) (fun z => ?_)
    · have z1 : ts = [] := by
        rw [List.isEmpty_iff_length_eq_zero, List.length_map] at z
        exact List.length_eq_zero_iff.mp z
      rw [z1] at pm
      have z2 : s.dues = [] := List.nil_perm.mp pm
      rw [z2] at k
      exact ⟨(by show 1 ≤ sizeLine; decide), fun D2 hD2 => k _ D2 (g1.trans (Grow.new hD2)) (g1.none hD2) upd_same⟩
    · cases ed : s.dues with
      | nil =>
        rw [ed] at pm
        exact absurd (by rw [List.perm_nil.mp pm]; rfl) z
      | cons a l =>
        rw [ed] at k pm
        obtain ⟨m1, m2⟩ := foldl_min l a
        refine ⟨_, rfl, D, ts.map (fun n : Nat => (n : Int)), rfl, SqL.of (by rw [hD, nv_ints]), ?_, fun m hm hle => ⟨(by show 2 ≤ sizeLine; decide), fun D2 hD2 => ?_⟩⟩
        · rw [List.length_map]
          have := pm.length_eq
          rw [this]
          exact Nat.succ_pos _
        · have em : m = ((l.foldl min a : Nat) : Int) := by
            obtain ⟨n, hn, rfl⟩ := List.mem_map.mp hm
            have h1 := m2 n (pm.mem_iff.mp hn)
            have h2 := hle ((l.foldl min a : Nat) : Int) (List.mem_map.mpr ⟨_, pm.mem_iff.mpr m1, rfl⟩)
            omega
          rw [em]
          exact k _ D2 (g1.trans (Grow.new hD2)) (g1.none hD2) upd_same
end
end Fd
end
section
namespace Fd
open PySem L2 Sw55
section
variable {P : Program} {w : World} {K : PySem.W.Frag} {mg : Str → Option Value} {base : Heap} {t : Adr}
def sp_tell_counts (t : Adr) : Sp := fun vs H Q _ => ∃ (o : Own) (A : SA) (s : Server) (W : List Want), vs = [.ref A.p] ∧ Rep (clOf t) o H A s W ∧ Ok0 s ∧ Tells H (Sw55.step s .told).2.v (Sw55.step s .told).2.l Q
theorem ok_tell_counts (T : Txt K mg t) : FnOk P w K mg base CX0 2 t.ftell_counts t.dtell_counts ["server"] (sp_tell_counts t) := by
  have G_count_working : FnOk P w K mg base CX0 1 t.fcount_working t.dcount_working ["server"] (sp_count_working t) := ok_count_working T
  have G_count_waiting : FnOk P w K mg base CX0 1 t.fcount_waiting t.dcount_waiting ["server"] (sp_count_waiting t) := ok_count_waiting T
  refine T.Ftell_counts.ok sc_tell_counts (fun vs H Q E h => ?_) (fun cdv A outer s H vs Q E hr h => ?_)
  · obtain ⟨o, A, s, W, rfl, _⟩ := h; rfl
  · obtain ⟨o, A, s, W, rfl, R, ok, k⟩ := h
    refine ⟨_, (pss_cons (ps_set (i := 1) sc_tell_counts.nd rfl (Or.inl rfl) (pe_lst (pa_cons (pe_callB call_lenD (by rfl) T.len PySem.boot_len (pa_cons (pe_fld (pv 0) rfl) pa_nil)) (pa_cons (pe_call G_count_working hr rfl T.mcount_working T.Fcount_working.kp T.bcount_working .nil pass0 (pa_cons (pv 0) pa_nil)) (pa_cons (pe_call G_count_waiting hr rfl T.mcount_waiting T.Fcount_waiting.kp T.bcount_waiting .nil pass0 (pa_cons (pv 0) pa_nil)) pa_nil)))))
      (pss_cons (ps_set (i := 2) sc_tell_counts.nd rfl (Or.inl rfl) (pe_lst (pa_cons (pe_fld (pv 0) rfl) (pa_cons (pe_fld (pv 0) rfl) (pa_cons (pe_fld (pv 0) rfl) pa_nil)))))
      (pss_cons (ps_set (i := 3) sc_tell_counts.nd rfl (Or.inl rfl) (pe_ifExp (pt_val (pe_fld (pv 0) rfl)) pe_int pe_int))
      (pss_one (ps_ret (pe_op op_cat (pe_op op_cat (pe_op op_cat (pe_lst (pa_cons pe_int pa_nil)) (pv 1)) (pv 2)) (pe_lst (pa_cons (pv 3) (pa_cons (pe_fld (pv 0) rfl) pa_nil))))))))), ?_⟩
    obtain ⟨dx, ge, hp, _⟩ := R.sv
    have ld : (dictOf A.gs).length = s.conns.length := by unfold dictOf; rw [List.length_map, R.count]
    refine ⟨_, rfl, A.p, _, dx, _, _, rfl, hp, T.clServer, T.nServer_inside, rfl, A.d, _, rfl, R.di, _, rfl, o, A, s, W, rfl, R, ok, fun H1 g1 => ?_⟩
    have R1 := R.grow g1
    refine ⟨_, rfl, o, A, s, W, rfl, R1, ok, fun H2 g2 => ⟨(by show 3 ≤ sizeLine; decide), fun D1 hD1 => ?_⟩⟩
    have gA : Grow H (upd H2 D1 (.lst [V.int ((dictOf A.gs).length : Int), nv s.working, nv s.waiting])) := (g1.trans g2).trans (Grow.new hD1)
    have hD10 : H D1 = none := (g1.trans g2).none hD1
    have hpA := gA _ _ hp
    have h1 : (upd H2 D1 (.lst [V.int ((dictOf A.gs).length : Int), nv s.working, nv s.waiting])) D1 = some (.lst [V.int ((dictOf A.gs).length : Int), nv s.working, nv s.waiting]) := upd_same
    rw [ld] at gA hpA h1 ⊢
    generalize (upd H2 D1 (.lst [V.int (s.conns.length : Int), nv s.working, nv s.waiting])) = HA at gA hpA h1
    refine ⟨_, rfl, A.p, _, dx, _, _, rfl, hpA, T.clServer, T.nServer_taken, rfl, _, rfl, A.p, _, dx, _, _, rfl, hpA, T.clServer, T.nServer_answered, rfl, _, rfl, A.p, _, dx, _, _, rfl, hpA, T.clServer, T.nServer_told_off, rfl, (by show 3 ≤ sizeLine; decide), fun D2 hD2 => ?_⟩
    have gB : Grow HA (upd HA D2 (.lst [nv s.asked, nv s.answered, nv s.refused])) := Grow.new hD2
    have hpB := gB _ _ hpA
    have h1B := gB _ _ h1
    have h2B : (upd HA D2 (.lst [nv s.asked, nv s.answered, nv s.refused])) D2 = some (.lst [nv s.asked, nv s.answered, nv s.refused]) := upd_same
    generalize (upd HA D2 (.lst [nv s.asked, nv s.answered, nv s.refused])) = HB at gB hpB h1B h2B
    have gAB := gA.trans gB
    have fin : ∀ b : Bool, b = s.ends.isSome → Tells HB 0 [s.conns.length, s.working, s.waiting, s.asked, s.answered, s.refused, b.toNat, s.now] Q := fun b hb H' D g hD h => k H' D (gAB.trans g) (gAB.none hD) (by rw [h, hb]; rfl)
    clear k
    refine ⟨_, rfl, A.p, _, dx, _, _, rfl, hpB, T.clServer, T.nServer_ending, rfl, _, rfl, ?_⟩
    have fin := fin _ rfl
    generalize s.ends.isSome = b at fin ⊢
    have rest : ∀ v : V, v = nv b.toNat → Q = Q → True := fun _ _ _ => trivial
    cases b with
    | true =>
      refine iteT ?_
      refine ⟨(by show 1 ≤ sizeLine; decide), fun D3 hD3 => ?_⟩
      have gC : Grow HB (upd HB D3 (.lst [V.int 0])) := Grow.new hD3
      refine ⟨_, rfl, D3, D1, _, _, rfl, rfl, upd_same, gC _ _ h1B, (by show 1 + 3 ≤ sizeLine; decide), fun D4 hD4 => ?_⟩
      have gD := gC.trans (Grow.new (u := .lst ([V.int 0] ++ [V.int (s.conns.length : Int), nv s.working, nv s.waiting])) hD4)
      refine ⟨_, rfl, D4, D2, _, _, rfl, rfl, upd_same, gD _ _ h2B, (by show 4 + 3 ≤ sizeLine; decide), fun D5 hD5 => ?_⟩
      have gE := gD.trans (Grow.new (u := .lst (([V.int 0] ++ [V.int (s.conns.length : Int), nv s.working, nv s.waiting]) ++ [nv s.asked, nv s.answered, nv s.refused])) hD5)
      refine ⟨_, rfl, _, rfl, A.p, _, dx, _, _, rfl, gE _ _ hpB, T.clServer, T.nServer_now, rfl, (by show 2 ≤ sizeLine; decide), fun D6 hD6 => ?_⟩
      have n56 : D5 ≠ D6 := ne_of_none upd_same hD6
      refine ⟨D5, D6, _, _, rfl, rfl, (by rw [upd_ne n56]; exact upd_same), upd_same, (by show 7 + 2 ≤ sizeLine; decide), fun D7 hD7 => ?_⟩
      have gF := gE.trans (Grow.new (u := .lst [V.int 1, nv s.now]) hD6)
      exact fin _ D7 (gF.trans (Grow.new hD7)) (gF.none hD7) upd_same
    | false =>
      refine iteF ?_
      refine ⟨(by show 1 ≤ sizeLine; decide), fun D3 hD3 => ?_⟩
      have gC : Grow HB (upd HB D3 (.lst [V.int 0])) := Grow.new hD3
      refine ⟨_, rfl, D3, D1, _, _, rfl, rfl, upd_same, gC _ _ h1B, (by show 1 + 3 ≤ sizeLine; decide), fun D4 hD4 => ?_⟩
      have gD := gC.trans (Grow.new (u := .lst ([V.int 0] ++ [V.int (s.conns.length : Int), nv s.working, nv s.waiting])) hD4)
      refine ⟨_, rfl, D4, D2, _, _, rfl, rfl, upd_same, gD _ _ h2B, (by show 4 + 3 ≤ sizeLine; decide), fun D5 hD5 => ?_⟩
      have gE := gD.trans (Grow.new (u := .lst (([V.int 0] ++ [V.int (s.conns.length : Int), nv s.working, nv s.waiting]) ++ [nv s.asked, nv s.answered, nv s.refused])) hD5)
      refine ⟨_, rfl, _, rfl, A.p, _, dx, _, _, rfl, gE _ _ hpB, T.clServer, T.nServer_now, rfl, (by show 2 ≤ sizeLine; decide), fun D6 hD6 => ?_⟩
      have n56 : D5 ≠ D6 := ne_of_none upd_same hD6
      refine ⟨D5, D6, _, _, rfl, rfl, (by rw [upd_ne n56]; exact upd_same), upd_same, (by show 7 + 2 ≤ sizeLine; decide), fun D7 hD7 => ?_⟩
      have gF := gE.trans (Grow.new (u := .lst [V.int 0, nv s.now]) hD6)
      exact fin _ D7 (gF.trans (Grow.new hD7)) (gF.none hD7) upd_same
theorem look_none_eq {s : Server} {k : Nat} (h : pick s.conns k = none) : Sw55.step s (.look k) = says s (-2) := by
  unfold Sw55.step
  dsimp only
  rw [conn_eq, h]
theorem look_some_eq {s : Server} {k : Nat} {c : Conn} (h : pick s.conns k = some c) : Sw55.step s (.look k) = (s, ⟨0, [c.from_, c.weight, c.credit, c.waiting.length, c.working.length, c.heard] ++ (c.working.map fun w => w.1) ++ c.waiting.map (fun q => q.id), []⟩) := by
  unfold Sw55.step
  dsimp only
  rw [conn_eq, h]
def sp_tell_guest (t : Adr) : Sp := fun vs H Q _ => ∃ (o : Own) (A : SA) (s : Server) (W : List Want) (k : Nat), vs = [.ref A.p, nv k] ∧ Rep (clOf t) o H A s W ∧ Ok0 s ∧ s.asked < 100000 ∧ Tells H (Sw55.step s (.look k)).2.v (Sw55.step s (.look k)).2.l Q
theorem ok_tell_guest (T : Txt K mg t) : FnOk P w K mg base CX0 2 t.ftell_guest t.dtell_guest ["server", "who"] (sp_tell_guest t) := by
  have G_request_numbers : FnOk P w K mg base CX0 1 t.frequest_numbers t.drequest_numbers ["requests"] (sp_request_numbers t) := ok_request_numbers T
  refine T.Ftell_guest.ok sc_tell_guest (fun vs H Q E h => ?_) (fun cdv A outer s H vs Q E hr h => ?_)
  · obtain ⟨o, A, s, W, k, rfl, _⟩ := h; rfl
  · obtain ⟨o, A, s, W, k, rfl, R, ok, has, kk⟩ := h
    refine ⟨_, (pss_cons (ps_if (pt_cmp (pc_dnotin (hu_of hr) (pv 1) (pe_fld (pv 0) rfl))) (pss_one (ps_ret (pe_lst (pa_cons (pe_gi rfl T.cNOBODY) pa_nil)))) pss_nil)
      (pss_cons (ps_set (i := 2) sc_tell_guest.nd rfl (Or.inl rfl) (pe_dget (hu_of hr) (pe_fld (pv 0) rfl) (pv 1) (fun _ _ => rfl)))
      (pss_cons (ps_set (i := 3) sc_tell_guest.nd rfl (Or.inl rfl) (pe_lst (pa_cons pe_int (pa_cons (pe_fld (pv 2) rfl) (pa_cons (pe_fld (pv 2) rfl) (pa_cons (pe_fld (pv 2) rfl) (pa_cons (pe_callB call_len_seq (by rfl) T.len PySem.boot_len (pa_cons (pe_fld (pv 2) rfl) pa_nil)) (pa_cons (pe_callB call_len_seq (by rfl) T.len PySem.boot_len (pa_cons (pe_fld (pv 2) rfl) pa_nil)) (pa_cons (pe_fld (pv 2) rfl) pa_nil)))))))))
      (pss_one (ps_ret (pe_op op_cat (pe_op op_cat (pv 3) (pe_call G_request_numbers hr rfl T.mrequest_numbers T.Frequest_numbers.kp T.brequest_numbers .nil pass0 (pa_cons (pe_fld (pv 2) rfl) pa_nil))) (pe_call G_request_numbers hr rfl T.mrequest_numbers T.Frequest_numbers.kp T.brequest_numbers .nil pass0 (pa_cons (pe_fld (pv 2) rfl) pa_nil)))))))), ?_⟩
    obtain ⟨dx, ge, hp, _⟩ := R.sv
    refine ⟨_, rfl, _, rfl, A.p, _, dx, _, _, rfl, hp, T.clServer, T.nServer_inside, rfl, A.d, _, rfl, DGet.k (k := Sum.inl (k : Int)) R.di, _, rfl, ?_⟩
    cases e : pick s.conns k with
    | none =>
      rw [look_none_eq e] at kk
      rw [R.look_none e]
      refine iteT ?_
      exact ⟨(by show 1 ≤ sizeLine; decide), fun D hD => kk _ D (Grow.new hD) hD upd_same⟩
    | some c =>
      obtain ⟨hc, hk⟩ := pick_some e
      rw [look_some_eq e] at kk
      subst hk
      obtain ⟨g, hg, z, eg⟩ := R.look ok.srt hc
      obtain ⟨dy, ch, lo, hga, hlv⟩ := z.ob
      rw [eg]
      refine iteF ?_
      obtain ⟨xs, x1, x2, x3, x4, x5⟩ := numsK z.kr
      obtain ⟨ys, y1, y2, y3, y4, y5⟩ := numsW z.wr
      have hh := held_le ok hc
      have hkl := z.kl
      have hwl := z.wl
      rw [x1] at hkl
      rw [y1] at hwl
      refine ⟨_, rfl, A.p, _, dx, _, _, rfl, hp, T.clServer, T.nServer_inside, rfl, _, rfl, A.d, _, rfl, R.dget eg, ?_⟩
      refine ⟨_, rfl, g.a, _, dy, _, _, rfl, hga, T.clGuest, T.nGuest_address, rfl, _, rfl, g.a, _, dy, _, _, rfl, hga, T.clGuest, T.nGuest_weight, rfl, _, rfl, g.a, _, dy, _, _, rfl, hga, T.clGuest, T.nGuest_credit, rfl, _, rfl, g.a, _, dy, _, _, rfl, hga, T.clGuest, T.nGuest_waiting, rfl, g.wa, _, rfl, .inl (SqL.of hwl), _, rfl, g.a, _, dy, _, _, rfl, hga, T.clGuest, T.nGuest_working, rfl, g.ka, _, rfl, .inl (SqL.of hkl), _, rfl, g.a, _, dy, _, _, rfl, hga, T.clGuest, T.nGuest_heard_at, rfl, (by show 7 ≤ sizeLine; decide), fun D1 hD1 => ?_⟩
      have lx : (refs xs).length = c.working.length := by unfold refs; rw [List.length_map, x4]
      have ly : (refs ys).length = c.waiting.length := by unfold refs; rw [List.length_map, y4]
      rw [lx, ly]
      have gA : Grow H (upd H D1 (.lst [V.int 0, nv c.from_, nv c.weight, nv c.credit, V.int (c.waiting.length : Int), V.int (c.working.length : Int), nv c.heard])) := Grow.new hD1
      have h1 : (upd H D1 (.lst [V.int 0, nv c.from_, nv c.weight, nv c.credit, V.int (c.waiting.length : Int), V.int (c.working.length : Int), nv c.heard])) D1 = some (.lst [V.int 0, nv c.from_, nv c.weight, nv c.credit, V.int (c.waiting.length : Int), V.int (c.working.length : Int), nv c.heard]) := upd_same
      refine ⟨_, rfl, _, rfl, g.a, _, dy, _, _, rfl, gA _ _ hga, T.clGuest, T.nGuest_working, rfl, g.ka, xs, rfl, gA _ _ hkl, x3.grow (fun y _ u h => gA _ _ h), (by rw [x4]; show _ < 16777216; omega), fun D2 hD2 => ?_⟩
      have gB := gA.trans (Grow.new (u := .lst ((xs.map (·.2)).map nv)) hD2)
      have n12 : D1 ≠ D2 := ne_of_none h1 hD2
      refine ⟨D1, D2, _, _, rfl, rfl, (by rw [upd_ne n12]; exact h1), upd_same, (by rw [List.length_map, List.length_map, x4]; show 7 + _ ≤ 16777216; omega), fun D3 hD3 => ?_⟩
      have gC := gB.trans (Grow.new (u := .lst ([V.int 0, nv c.from_, nv c.weight, nv c.credit, V.int (c.waiting.length : Int), V.int (c.working.length : Int), nv c.heard] ++ (xs.map (·.2)).map nv)) hD3)
      refine ⟨_, rfl, g.a, _, dy, _, _, rfl, gC _ _ hga, T.clGuest, T.nGuest_waiting, rfl, g.wa, ys, rfl, gC _ _ hwl, y3.grow (fun y _ u h => gC _ _ h), (by rw [y4]; show _ < 16777216; omega), fun D4 hD4 => ?_⟩
      have n34 : D3 ≠ D4 := ne_of_none upd_same hD4
      have gD := gC.trans (Grow.new (u := .lst ((ys.map (·.2)).map nv)) hD4)
      refine ⟨D3, D4, _, _, rfl, rfl, (by rw [upd_ne n34]; exact upd_same), upd_same, (by rw [List.length_append, List.length_map, List.length_map, List.length_map, List.length_map, x4, y4]; show 7 + _ + _ ≤ 16777216; omega), fun D5 hD5 => ?_⟩
      refine kk _ D5 (gD.trans (Grow.new hD5)) (gD.none hD5) ?_
      rw [upd_same, x2, y2]
      show some (HO.lst _) = some (HO.lst (V.int 0 :: List.map nv ([c.from_, c.weight, c.credit, c.waiting.length, c.working.length, c.heard] ++ (c.working.map fun w => w.1) ++ c.waiting.map (fun q => q.id))))
      rw [List.map_append, List.map_append]
      rfl
end
end Fd
end
section
namespace Fd
open PySem L2 Sw55
inductive CallOf : Nat → List Nat → Bytes → Sw55.Call → Prop
  | c1 (a b c d e f g h n : Nat) : CallOf 1 [a, b, c, d, e, f, g, h, n] [] (.begin_ a b c d e f g h n)
  | c2 (a n : Nat) : CallOf 2 [a, n] [] (.arrives a n)
  | c3 (k id cost n : Nat) (b : Bytes) : CallOf 3 [k, id, cost, n] b (.asks k id cost n b)
  | c4 (k id n : Nat) (b : Bytes) : CallOf 4 [k, id, n] b (.answers k id n b)
  | c5 (k id n : Nat) : CallOf 5 [k, id, n] [] (.drops k id n)
  | c6 (k n : Nat) : CallOf 6 [k, n] [] (.leaves k n)
  | c7 (k n : Nat) : CallOf 7 [k, n] [] (.heard k n)
  | c8 (k v n : Nat) : CallOf 8 [k, v, n] [] (.weight k v n)
  | c9 (n : Nat) : CallOf 9 [n] [] (.tick n)
  | c10 (g n : Nat) : CallOf 10 [g, n] [] (.halt_ g n)
  | c11 : CallOf 11 [] [] .due
  | c12 : CallOf 12 [] [] .told
  | c13 (k : Nat) : CallOf 13 [k] [] (.look k)
theorem Gives.from {t : Adr} {o o1 : Own} {H H1 : Hp} {A : SA} {s : Server} {W : List Want} {c : Sw55.Call} {Q : VK} (k : Gives t o H A s W c Q) (ex : Ext o H o1 H1) : Gives t o1 H1 A s W c Q := fun o' H' A' ep R e => k o' H' A' ep R (ex.trans e)
section
variable {P : Program} {w : World} {K : PySem.W.Frag} {mg : Str → Option Value} {base : Heap} {t : Adr}
def sp_read_rules (t : Adr) : Sp := fun vs H Q _ => ∃ (nu : Addr) (r : Rules) (n : Nat), vs = [.ref nu] ∧ H nu = some (.lst ([r.most, r.each, r.work, r.wait, r.idle, r.limit, r.rate, r.burst, n].map nv)) ∧
  ∀ (H' : Hp) (u dy : Addr), Grow H H' → H u = none → H' u = some (.ins t.CRules dy (uf r)) → Q (.ref u) H'
theorem ok_read_rules (T : Txt K mg t) : FnOk P w K mg base CX0 3 t.fread_rules t.dread_rules ["numbers"] (sp_read_rules t) := by
  have G_Rules_init : FnOk P w K mg base CX0 1 t.fRules_init t.dRules_init ["self", "most", "each", "work", "wait", "idle", "limit", "rate", "burst"] (sp_Rules_init t) := ok_Rules_init T
  refine T.Fread_rules.ok sc_read_rules (fun vs H Q E h => ?_) (fun cdv A outer s H vs Q E hr h => ?_)
  · obtain ⟨nu, r, n, rfl, _⟩ := h; rfl
  · obtain ⟨nu, r, n, rfl, hn, k⟩ := h
    refine ⟨_, (pss_one (ps_ret (pe_make T.MRules G_Rules_init hr rfl T.mRules T.bRules_init .nil pass0 (pa_cons (pe_ix ix_list (pv 0) pe_int (fun _ _ => rfl)) (pa_cons (pe_ix ix_list (pv 0) pe_int (fun _ _ => rfl)) (pa_cons (pe_ix ix_list (pv 0) pe_int (fun _ _ => rfl)) (pa_cons (pe_ix ix_list (pv 0) pe_int (fun _ _ => rfl)) (pa_cons (pe_ix ix_list (pv 0) pe_int (fun _ _ => rfl)) (pa_cons (pe_ix ix_list (pv 0) pe_int (fun _ _ => rfl)) (pa_cons (pe_ix ix_list (pv 0) pe_int (fun _ _ => rfl)) (pa_cons (pe_ix ix_list (pv 0) pe_int (fun _ _ => rfl)) pa_nil))))))))))), ?_⟩
    refine ⟨_, rfl, nu, _, _, _, rfl, rfl, SqL.of hn, atI_nat (j := 0) rfl, _, rfl, nu, _, _, _, rfl, rfl, SqL.of hn, atI_nat (j := 1) rfl, _, rfl, nu, _, _, _, rfl, rfl, SqL.of hn, atI_nat (j := 2) rfl, _, rfl, nu, _, _, _, rfl, rfl, SqL.of hn, atI_nat (j := 3) rfl, ?_⟩
    refine ⟨_, rfl, nu, _, _, _, rfl, rfl, SqL.of hn, atI_nat (j := 4) rfl, _, rfl, nu, _, _, _, rfl, rfl, SqL.of hn, atI_nat (j := 5) rfl, _, rfl, nu, _, _, _, rfl, rfl, SqL.of hn, atI_nat (j := 6) rfl, _, rfl, nu, _, _, _, rfl, rfl, SqL.of hn, atI_nat (j := 7) rfl, fun x dx hx hdx nxd => ?_⟩
    refine ⟨x, dx, r, rfl, upd_same, rfl, ?_⟩
    rw [upd_upd]
    refine k _ x dx (fun b u hb => ?_) hx upd_same
    rw [upd_ne (ne_of_none hb hx), upd_ne (ne_of_none hb hdx)]
    exact hb
def sp_steer (t : Adr) : Sp := fun vs H Q _ => ∃ (o : Own) (A : SA) (s : Server) (W : List Want) (call : Nat) (nums : List Nat) (bs : Bytes) (nu : Addr) (c : Sw55.Call), vs = [.ref A.p, nv call, .ref nu] ∧ Rep (clOf t) o H A s W ∧ H nu = some (.lst (nums.map nv)) ∧ CallOf call nums bs c ∧ (call = 8 ∨ call = 9 ∨ call = 10) ∧ Asked s W c ∧ Gives t o H A s W c Q
theorem ok_steer (T : Txt K mg t) : FnOk P w K mg base CX0 8 t.fsteer t.dsteer ["server", "call", "numbers"] (sp_steer t) := by
  have G_weigh : FnOk P w K mg base CX0 7 t.fweigh t.dweigh ["server", "who", "weight", "now"] (sp_weigh t) := ok_weigh T
  have G_tick : FnOk P w K mg base CX0 7 t.ftick t.dtick ["server", "now"] (sp_tick t) := (ok_tick T).mono (by decide)
  have G_stop : FnOk P w K mg base CX0 7 t.fstop t.dstop ["server", "grace", "now"] (sp_stop t) := (ok_stop T).mono (by decide)
  refine T.Fsteer.ok sc_steer (fun vs H Q E h => ?_) (fun cdv A outer s H vs Q E hr h => ?_)
  · obtain ⟨o, A, s, W, call, nums, bs, nu, c, rfl, _⟩ := h; rfl
  · obtain ⟨o, A, s, W, call, nums, bs, nu, c, rfl, R, hn, co, hcall, ask, k⟩ := h
    refine ⟨_, (pss_cons (ps_if (pt_cmpR op_eq (pv 1) (pe_gi rfl T.cWEIGHT) (nomark _)) (pss_one (ps_ret (pe_call G_weigh hr rfl T.mweigh T.Fweigh.kp T.bweigh .nil pass0 (pa_cons (pv 0) (pa_cons (pe_ix ix_list (pv 2) pe_int (fun _ _ => rfl)) (pa_cons (pe_ix ix_list (pv 2) pe_int (fun _ _ => rfl)) (pa_cons (pe_ix ix_list (pv 2) pe_int (fun _ _ => rfl)) pa_nil))))))) pss_nil)
      (pss_cons (ps_if (pt_cmpR op_eq (pv 1) (pe_gi rfl T.cTICK) (nomark _)) (pss_one (ps_ret (pe_call G_tick hr rfl T.mtick T.Ftick.kp T.btick .nil pass0 (pa_cons (pv 0) (pa_cons (pe_ix ix_list (pv 2) pe_int (fun _ _ => rfl)) pa_nil))))) pss_nil)
      (pss_one (ps_ret (pe_call G_stop hr rfl T.mstop T.Fstop.kp T.bstop .nil pass0 (pa_cons (pv 0) (pa_cons (pe_ix ix_list (pv 2) pe_int (fun _ _ => rfl)) (pa_cons (pe_ix ix_list (pv 2) pe_int (fun _ _ => rfl)) pa_nil)))))))), ?_⟩
    refine ⟨_, rfl, rfl, _, rfl, ?_⟩
    cases co with
    | c8 k1 v n =>
      refine iteT ⟨_, rfl, _, rfl, nu, _, _, _, rfl, rfl, SqL.of hn, atI_nat (j := 0) rfl, _, rfl, nu, _, _, _, rfl, rfl, SqL.of hn, atI_nat (j := 1) rfl, _, rfl, nu, _, _, _, rfl, rfl, SqL.of hn, atI_nat (j := 2) rfl, o, A, s, W, k1, v, n, rfl, R, ask, k⟩
    | c9 n =>
      refine iteF ?_
      refine ⟨_, rfl, rfl, _, rfl, iteT ?_⟩
      exact ⟨_, rfl, _, rfl, nu, _, _, _, rfl, rfl, SqL.of hn, atI_nat (j := 0) rfl, o, A, s, W, n, rfl, R, ask, k⟩
    | c10 g n =>
      refine iteF ?_
      refine ⟨_, rfl, rfl, _, rfl, iteF ?_⟩
      exact ⟨_, rfl, _, rfl, nu, _, _, _, rfl, rfl, SqL.of hn, atI_nat (j := 0) rfl, _, rfl, nu, _, _, _, rfl, rfl, SqL.of hn, atI_nat (j := 1) rfl, o, A, s, W, g, n, rfl, R, ask, k⟩
    | _ => omega
def sp_serve (t : Adr) : Sp := fun vs H Q _ => ∃ (o : Own) (A : SA) (s : Server) (W : List Want) (call : Nat) (nums : List Nat) (bs : Bytes) (nu da : Addr) (c : Sw55.Call), vs = [.ref A.p, nv call, .ref nu, .ref da] ∧ Rep (clOf t) o H A s W ∧ H nu = some (.lst (nums.map nv)) ∧ H da = some (.lst (bs.map nv)) ∧ o da = .data ∧ bs.length ≤ 65536 ∧
  CallOf call nums bs c ∧ call ≤ 7 ∧ Asked s W c ∧ Gives t o H A s W c Q
theorem ok_serve (T : Txt K mg t) : FnOk P w K mg base CX0 8 t.fserve t.dserve ["server", "call", "numbers", "data"] (sp_serve t) := by
  have G_begin : FnOk P w K mg base CX0 7 t.fbegin t.dbegin ["server", "rules", "now"] (sp_begin t) := (ok_begin T).mono (by decide)
  have G_read_rules : FnOk P w K mg base CX0 7 t.fread_rules t.dread_rules ["numbers"] (sp_read_rules t) := (ok_read_rules T).mono (by decide)
  have G_arrive : FnOk P w K mg base CX0 7 t.farrive t.darrive ["server", "address", "now"] (sp_arrive t) := (ok_arrive T).mono (by decide)
  have G_ask : FnOk P w K mg base CX0 7 t.fask t.dask ["server", "who", "number", "cost", "now", "data"] (sp_ask t) := ok_ask T
  have G_answer : FnOk P w K mg base CX0 7 t.fanswer t.danswer ["server", "who", "number", "now", "data"] (sp_answer t) := ok_answer T
  have G_drop : FnOk P w K mg base CX0 7 t.fdrop t.ddrop ["server", "who", "number", "now"] (sp_drop t) := ok_drop T
  have G_leave : FnOk P w K mg base CX0 7 t.fleave t.dleave ["server", "who", "now"] (sp_leave t) := ok_leave T
  have G_hear : FnOk P w K mg base CX0 7 t.fhear t.dhear ["server", "who", "now"] (sp_hear t) := ok_hear T
  refine T.Fserve.ok sc_serve (fun vs H Q E h => ?_) (fun cdv A outer s H vs Q E hr h => ?_)
  · obtain ⟨o, A, s, W, call, nums, bs, nu, da, c, rfl, _⟩ := h; rfl
  · obtain ⟨o, A, s, W, call, nums, bs, nu, da, c, rfl, R, hn, hda, oda, hbs, co, hcall, ask, k⟩ := h
    refine ⟨_, (pss_cons (ps_if (pt_cmpR op_eq (pv 1) (pe_gi rfl T.cBEGIN) (nomark _)) (pss_one (ps_ret (pe_call G_begin hr rfl T.mbegin T.Fbegin.kp T.bbegin .nil pass0 (pa_cons (pv 0) (pa_cons (pe_call G_read_rules hr rfl T.mread_rules T.Fread_rules.kp T.bread_rules .nil pass0 (pa_cons (pv 2) pa_nil)) (pa_cons (pe_ix ix_list (pv 2) pe_int (fun _ _ => rfl)) pa_nil)))))) pss_nil)
      (pss_cons (ps_if (pt_cmpR op_eq (pv 1) (pe_gi rfl T.cARRIVES) (nomark _)) (pss_one (ps_ret (pe_call G_arrive hr rfl T.marrive T.Farrive.kp T.barrive .nil pass0 (pa_cons (pv 0) (pa_cons (pe_ix ix_list (pv 2) pe_int (fun _ _ => rfl)) (pa_cons (pe_ix ix_list (pv 2) pe_int (fun _ _ => rfl)) pa_nil)))))) pss_nil)
      (pss_cons (ps_if (pt_cmpR op_eq (pv 1) (pe_gi rfl T.cASKS) (nomark _)) (pss_one (ps_ret (pe_call G_ask hr rfl T.mask T.Fask.kp T.bask .nil pass0 (pa_cons (pv 0) (pa_cons (pe_ix ix_list (pv 2) pe_int (fun _ _ => rfl)) (pa_cons (pe_ix ix_list (pv 2) pe_int (fun _ _ => rfl)) (pa_cons (pe_ix ix_list (pv 2) pe_int (fun _ _ => rfl)) (pa_cons (pe_ix ix_list (pv 2) pe_int (fun _ _ => rfl)) (pa_cons (pv 3) pa_nil))))))))) pss_nil)
      (pss_cons (ps_if (pt_cmpR op_eq (pv 1) (pe_gi rfl T.cANSWERS) (nomark _)) (pss_one (ps_ret (pe_call G_answer hr rfl T.manswer T.Fanswer.kp T.banswer .nil pass0 (pa_cons (pv 0) (pa_cons (pe_ix ix_list (pv 2) pe_int (fun _ _ => rfl)) (pa_cons (pe_ix ix_list (pv 2) pe_int (fun _ _ => rfl)) (pa_cons (pe_ix ix_list (pv 2) pe_int (fun _ _ => rfl)) (pa_cons (pv 3) pa_nil)))))))) pss_nil)
      (pss_cons (ps_if (pt_cmpR op_eq (pv 1) (pe_gi rfl T.cDROPS) (nomark _)) (pss_one (ps_ret (pe_call G_drop hr rfl T.mdrop T.Fdrop.kp T.bdrop .nil pass0 (pa_cons (pv 0) (pa_cons (pe_ix ix_list (pv 2) pe_int (fun _ _ => rfl)) (pa_cons (pe_ix ix_list (pv 2) pe_int (fun _ _ => rfl)) (pa_cons (pe_ix ix_list (pv 2) pe_int (fun _ _ => rfl)) pa_nil))))))) pss_nil)
      (pss_cons (ps_if (pt_cmpR op_eq (pv 1) (pe_gi rfl T.cLEAVES) (nomark _)) (pss_one (ps_ret (pe_call G_leave hr rfl T.mleave T.Fleave.kp T.bleave .nil pass0 (pa_cons (pv 0) (pa_cons (pe_ix ix_list (pv 2) pe_int (fun _ _ => rfl)) (pa_cons (pe_ix ix_list (pv 2) pe_int (fun _ _ => rfl)) pa_nil)))))) pss_nil)
      (pss_one (ps_ret (pe_call G_hear hr rfl T.mhear T.Fhear.kp T.bhear .nil pass0 (pa_cons (pv 0) (pa_cons (pe_ix ix_list (pv 2) pe_int (fun _ _ => rfl)) (pa_cons (pe_ix ix_list (pv 2) pe_int (fun _ _ => rfl)) pa_nil)))))))))))), ?_⟩
    refine ⟨_, rfl, rfl, _, rfl, ?_⟩
    cases co with
    | c1 a b c d e f g h n =>
      refine iteT ?_
      refine ⟨_, rfl, _, rfl, nu, ⟨a, b, c, d, e, f, g, h⟩, n, rfl, hn, fun H1 u dy g1 hu0 hu => ?_⟩
      have R1 := (R.grow g1).to_data (R.free hu0) hu
      have ex1 : Ext o H (setR o u .data) H1 := fun b2 u2 hb _ => ⟨g1 _ _ hb, setR_ne (ne_of_none hb hu0)⟩
      exact ⟨_, rfl, nu, _, _, _, rfl, rfl, SqL.of (g1 _ _ hn), atI_nat (j := 8) rfl, setR o u .data, A, s, W, u, dy, ⟨a, b, c, d, e, f, g, h⟩, n, rfl, R1, hu, setR_same, k.from ex1⟩
    | c2 a n =>
      refine iteF ⟨_, rfl, rfl, _, rfl, iteT ?_⟩
      exact ⟨_, rfl, _, rfl, nu, _, _, _, rfl, rfl, SqL.of hn, atI_nat (j := 0) rfl, _, rfl, nu, _, _, _, rfl, rfl, SqL.of hn, atI_nat (j := 1) rfl, o, A, s, W, a, n, rfl, R, ask, k⟩
    | c3 k1 id cost n _ =>
      refine iteF ⟨_, rfl, rfl, _, rfl, iteF ⟨_, rfl, rfl, _, rfl, iteT ?_⟩⟩
      exact ⟨_, rfl, _, rfl, nu, _, _, _, rfl, rfl, SqL.of hn, atI_nat (j := 0) rfl, _, rfl, nu, _, _, _, rfl, rfl, SqL.of hn, atI_nat (j := 1) rfl, _, rfl, nu, _, _, _, rfl, rfl, SqL.of hn, atI_nat (j := 2) rfl, _, rfl, nu, _, _, _, rfl, rfl, SqL.of hn, atI_nat (j := 3) rfl, _, rfl, o, A, s, W, k1, id, cost, n, da, bs, rfl, R, hda, oda, ask, k⟩
    | c4 k1 id n _ =>
      refine iteF ⟨_, rfl, rfl, _, rfl, iteF ⟨_, rfl, rfl, _, rfl, iteF ⟨_, rfl, rfl, _, rfl, iteT ?_⟩⟩⟩
      exact ⟨_, rfl, _, rfl, nu, _, _, _, rfl, rfl, SqL.of hn, atI_nat (j := 0) rfl, _, rfl, nu, _, _, _, rfl, rfl, SqL.of hn, atI_nat (j := 1) rfl, _, rfl, nu, _, _, _, rfl, rfl, SqL.of hn, atI_nat (j := 2) rfl, _, rfl, o, A, s, W, k1, id, n, da, bs, rfl, R, hda, oda, hbs, ask, k⟩
    | c5 k1 id n =>
      refine iteF ⟨_, rfl, rfl, _, rfl, iteF ⟨_, rfl, rfl, _, rfl, iteF ⟨_, rfl, rfl, _, rfl, iteF ⟨_, rfl, rfl, _, rfl, iteT ?_⟩⟩⟩⟩
      exact ⟨_, rfl, _, rfl, nu, _, _, _, rfl, rfl, SqL.of hn, atI_nat (j := 0) rfl, _, rfl, nu, _, _, _, rfl, rfl, SqL.of hn, atI_nat (j := 1) rfl, _, rfl, nu, _, _, _, rfl, rfl, SqL.of hn, atI_nat (j := 2) rfl, o, A, s, W, k1, id, n, rfl, R, ask, k⟩
    | c6 k1 n =>
      refine iteF ⟨_, rfl, rfl, _, rfl, iteF ⟨_, rfl, rfl, _, rfl, iteF ⟨_, rfl, rfl, _, rfl, iteF ⟨_, rfl, rfl, _, rfl, iteF ⟨_, rfl, rfl, _, rfl, iteT ?_⟩⟩⟩⟩⟩
      exact ⟨_, rfl, _, rfl, nu, _, _, _, rfl, rfl, SqL.of hn, atI_nat (j := 0) rfl, _, rfl, nu, _, _, _, rfl, rfl, SqL.of hn, atI_nat (j := 1) rfl, o, A, s, W, k1, n, rfl, R, ask, k⟩
    | c7 k1 n =>
      refine iteF ⟨_, rfl, rfl, _, rfl, iteF ⟨_, rfl, rfl, _, rfl, iteF ⟨_, rfl, rfl, _, rfl, iteF ⟨_, rfl, rfl, _, rfl, iteF ⟨_, rfl, rfl, _, rfl, iteF ?_⟩⟩⟩⟩⟩
      exact ⟨_, rfl, _, rfl, nu, _, _, _, rfl, rfl, SqL.of hn, atI_nat (j := 0) rfl, _, rfl, nu, _, _, _, rfl, rfl, SqL.of hn, atI_nat (j := 1) rfl, o, A, s, W, k1, n, rfl, R, ask, k⟩
    | _ => omega
end
end Fd
end
section
namespace Fd
open PySem L2 Sw55
theorem ofConn_l (s : Server) (k n : Nat) (f : Rules → Server → Conn → Int × Does) : (ofConn s k n f).2.l = [] := by
  unfold ofConn
  split
  · rfl
  · dsimp only
    split <;> rfl
theorem step_l {call : Nat} {nums : List Nat} {bs : Bytes} {c : Sw55.Call} (co : CallOf call nums bs c) (h : call ≤ 10) (s : Server) : (Sw55.step s c).2.l = [] := by
  cases co with
  | c1 a b c d e f g h n => unfold Sw55.step; dsimp only; split <;> rfl
  | c2 a n =>
    unfold Sw55.step
    dsimp only
    split
    · rfl
    · split
      · rfl
      · split
        · rfl
        · split
          · rfl
          · split
            · rfl
            · split <;> rfl
  | c3 k id cost n b => unfold Sw55.step; dsimp only; split; rfl; exact ofConn_l _ _ _ _
  | c4 k id n b => unfold Sw55.step; dsimp only; split; rfl; exact ofConn_l _ _ _ _
  | c5 k id n => unfold Sw55.step; exact ofConn_l _ _ _ _
  | c6 k n => unfold Sw55.step; exact ofConn_l _ _ _ _
  | c7 k n => unfold Sw55.step; exact ofConn_l _ _ _ _
  | c8 k v n => unfold Sw55.step; dsimp only; split; rfl; exact ofConn_l _ _ _ _
  | c9 n => unfold Sw55.step; dsimp only; split <;> rfl
  | c10 g n =>
    by_cases h1 : TIME < n ∨ 2 ^ 31 < g
    · rw [halt_bad h1]; rfl
    · cases er : (passes s n).1.rules with
      | none => rw [halt_none h1 er]; rfl
      | some r =>
        by_cases ee : (passes s n).1.ends.isSome = true
        · rw [halt_again h1 er ee]; rfl
        · unfold Sw55.step
          dsimp only
          rw [if_neg h1, er]
          dsimp only
          rw [if_neg ee]
          rfl
  | _ => omega
theorem due_wants (s : Server) : (Sw55.step s .due).2.wants = [] := by
  show (match s.dues with
    | [] => (⟨0, [], []⟩ : Ans)
    | t :: l => ⟨1, [l.foldl min t], []⟩).wants = []
  split <;> rfl
theorem look_same (s : Server) (k : Nat) : (Sw55.step s (.look k)).1 = s ∧ (Sw55.step s (.look k)).2.wants = [] := by
  cases e : pick s.conns k with
  | none => rw [look_none_eq e]; exact ⟨rfl, rfl⟩
  | some c => rw [look_some_eq e]; exact ⟨rfl, rfl⟩
section
variable {c : Cl} {o o' : Own} {H H' : Hp} {A : SA} {s : Server} {W : List Want}
theorem Rep.neww (h : Rep c o H A s W) {w' : Addr} (keep : ∀ b u, H b = some u → o b ≠ .out → o b ≠ .srv → H' b = some u ∧ o' b = o b) (dom' : ∀ b, o' b ≠ .out → H' b ≠ none)
    (sv : ∃ dx ge, H' A.p = some (.ins c.CS dx (sf (rv s A.u) s.now A.d A.r s.ends.isSome ge s.asked s.answered s.refused w')) ∧ ∀ e, s.ends = some e → ge = e) (os : o' A.p = .srv)
    (wl : H' w' = some (.lst [])) (ow : o' w' = .wants) : Rep c o' H' { A with w := w', ws := [] } s [] := by
  have k : ∀ {b : Addr} {u : HO} {r : Role}, H b = some u → o b = r → r ≠ .out → r ≠ .srv → H' b = some u ∧ o' b = r := fun hb e n1 n2 => by
    obtain ⟨a1, a2⟩ := keep _ _ hb (by rw [e]; exact n1) (by rw [e]; exact n2)
    exact ⟨a1, a2.trans e⟩
  obtain ⟨b1, b2⟩ := k h.di h.od (by intro q; cases q) (by intro q; cases q)
  obtain ⟨c1, c2⟩ := k h.rl h.orow (by intro q; cases q) (by intro q; cases q)
  refine ⟨dom', sv, os, fun r e => ?_, b1, b2, c1, c2, wl, ow, .nil, h.ky, fun g hg => ?_⟩
  · obtain ⟨⟨dy, e1⟩, e2⟩ := h.ru r e
    obtain ⟨e3, e4⟩ := k e1 e2 (by intro q; cases q) (by intro q; cases q)
    exact ⟨⟨dy, e3⟩, e4⟩
  · obtain ⟨x, hx, z⟩ := h.gu g hg
    refine ⟨x, hx, z.keep (Nat.le_refl _) fun b u hb q => keep b u hb ?_ ?_⟩
    all_goals (rcases q with q | q <;> intro e <;> rw [e] at q <;> cases q)
end
section
variable {P : Program} {w : World} {K : PySem.W.Frag} {mg : Str → Option Value} {base : Heap} {t : Adr}
def Answers (t : Adr) (o : Own) (H : Hp) (A : SA) (s' : Server) (W' : List Want) (v : Int) (l : List Nat) (Q : VK) : Prop :=
  ∀ (o' : Own) (H' : Hp) (A' : SA) (D : Addr), A'.p = A.p → Rep (clOf t) o' H' A' s' W' → Ext o H o' H' → o' D = .out → (∀ b u, H b = some u → o b = .out → b ≠ D) → H' D = some (.lst (V.int v :: l.map nv)) → Q (.ref D) H'
theorem Answers.grow {o : Own} {H H1 : Hp} {A : SA} {s' : Server} {W' : List Want} {v : Int} {l : List Nat} {Q : VK} (k : Answers t o H A s' W' v l Q) (g : Grow H H1) : Answers t o H1 A s' W' v l Q :=
  fun o' H' A' D ep R ex oD nD hD => k o' H' A' D ep R (g.ext.trans ex) oD (fun b u hb ob => nD b u (g b u hb) ob) hD
def sp_tell (t : Adr) : Sp := fun vs H Q _ => ∃ (o : Own) (A : SA) (s : Server) (W : List Want) (call : Nat) (nums : List Nat) (bs : Bytes) (nu da : Addr) (c : Sw55.Call), vs = [.ref A.p, nv call, .ref nu, .ref da] ∧ Rep (clOf t) o H A s W ∧ H nu = some (.lst (nums.map nv)) ∧ H da = some (.lst (bs.map nv)) ∧ o da = .data ∧ bs.length ≤ 65536 ∧
  CallOf call nums bs c ∧ Asked s W c ∧ Answers t o H A (Sw55.step s c).1 (W ++ (Sw55.step s c).2.wants) (Sw55.step s c).2.v (Sw55.step s c).2.l Q
theorem ok_tell (T : Txt K mg t) : FnOk P w K mg base CX0 9 t.ftell t.dtell ["server", "call", "numbers", "data"] (sp_tell t) := by
  have G_tell_due : FnOk P w K mg base CX0 8 t.ftell_due t.dtell_due ["server"] (sp_tell_due t) := (ok_tell_due T).mono (by decide)
  have G_tell_counts : FnOk P w K mg base CX0 8 t.ftell_counts t.dtell_counts ["server"] (sp_tell_counts t) := (ok_tell_counts T).mono (by decide)
  have G_tell_guest : FnOk P w K mg base CX0 8 t.ftell_guest t.dtell_guest ["server", "who"] (sp_tell_guest t) := (ok_tell_guest T).mono (by decide)
  have G_steer : FnOk P w K mg base CX0 8 t.fsteer t.dsteer ["server", "call", "numbers"] (sp_steer t) := ok_steer T
  have G_serve : FnOk P w K mg base CX0 8 t.fserve t.dserve ["server", "call", "numbers", "data"] (sp_serve t) := ok_serve T
  refine T.Ftell.ok sc_tell (fun vs H Q E h => ?_) (fun cdv A outer s H vs Q E hr h => ?_)
  · obtain ⟨o, A, s, W, call, nums, bs, nu, da, c, rfl, _⟩ := h; rfl
  · obtain ⟨o, A, s, W, call, nums, bs, nu, da, c, rfl, R, hn, hda, oda, hbs, co, ask, k⟩ := h
    refine ⟨_, (pss_cons (ps_if (pt_cmpR op_eq (pv 1) (pe_gi rfl T.cDUE) (nomark _)) (pss_one (ps_ret (pe_call G_tell_due hr rfl T.mtell_due T.Ftell_due.kp T.btell_due .nil pass0 (pa_cons (pv 0) pa_nil)))) pss_nil)
      (pss_cons (ps_if (pt_cmpR op_eq (pv 1) (pe_gi rfl T.cTOLD) (nomark _)) (pss_one (ps_ret (pe_call G_tell_counts hr rfl T.mtell_counts T.Ftell_counts.kp T.btell_counts .nil pass0 (pa_cons (pv 0) pa_nil)))) pss_nil)
      (pss_cons (ps_if (pt_cmpR op_eq (pv 1) (pe_gi rfl T.cLOOK) (nomark _)) (pss_one (ps_ret (pe_call G_tell_guest hr rfl T.mtell_guest T.Ftell_guest.kp T.btell_guest .nil pass0 (pa_cons (pv 0) (pa_cons (pe_ix ix_list (pv 2) pe_int (fun _ _ => rfl)) pa_nil))))) pss_nil)
      (pss_cons (ps_if (pt_cmpR op_in_seq (pv 1) (pe_tup (pa_cons (pe_gi rfl T.cWEIGHT) (pa_cons (pe_gi rfl T.cTICK) (pa_cons (pe_gi rfl T.cSTOP) pa_nil)))) (by rfl)) (pss_one (ps_ret (pe_lst (pa_cons (pe_call G_steer hr rfl T.msteer T.Fsteer.kp T.bsteer .nil pass0 (pa_cons (pv 0) (pa_cons (pv 1) (pa_cons (pv 2) pa_nil)))) pa_nil)))) pss_nil)
      (pss_one (ps_ret (pe_lst (pa_cons (pe_call G_serve hr rfl T.mserve T.Fserve.kp T.bserve .nil pass0 (pa_cons (pv 0) (pa_cons (pv 1) (pa_cons (pv 2) (pa_cons (pv 3) pa_nil))))) pa_nil)))))))), ?_⟩
    have ok := ask.ok
    have has := ask.as
    have view : ∀ {v : Int} {l : List Nat} {s' : Server} {ws : List Want}, s' = s → ws = [] → Answers t o H A s' (W ++ ws) v l Q → Tells H v l Q := fun {v l s' ws} e1 e2 k2 H' D g hD h => by
      subst e1 e2
      exact k2 o H' A D rfl (by rw [List.append_nil]; exact R.grow g) g.ext (R.free hD) (fun b u hb _ => ne_of_none hb hD) h
    by_cases h11 : call = 11
    · cases co with
      | c11 => exact ⟨_, rfl, rfl, _, rfl, iteT ⟨_, rfl, o, A, s, W, rfl, R, ok.toOk0, by omega, view rfl (due_wants s) k⟩⟩
      | _ => omega
    · have f11 : decide (nv call = V.int 11) = false := decide_eq_false fun e => h11 (by have := V.int.inj e; omega)
      refine ⟨_, rfl, rfl, _, rfl, ?_⟩
      rw [f11]
      refine iteF ?_
      by_cases h12 : call = 12
      · cases co with
        | c12 => exact ⟨_, rfl, rfl, _, rfl, iteT ⟨_, rfl, o, A, s, W, rfl, R, ok.toOk0, view rfl rfl k⟩⟩
        | _ => omega
      · have f12 : decide (nv call = V.int 12) = false := decide_eq_false fun e => h12 (by have := V.int.inj e; omega)
        refine ⟨_, rfl, rfl, _, rfl, ?_⟩
        rw [f12]
        refine iteF ?_
        by_cases h13 : call = 13
        · cases co with
          | c13 k1 => exact ⟨_, rfl, rfl, _, rfl, iteT ⟨_, rfl, _, rfl, nu, _, _, _, rfl, rfl, SqL.of hn, atI_nat (j := 0) rfl, o, A, s, W, k1, rfl, R, ok.toOk0, by omega, view (look_same s k1).1 (look_same s k1).2 k⟩⟩
          | _ => omega
        · have f13 : decide (nv call = V.int 13) = false := decide_eq_false fun e => h13 (by have := V.int.inj e; omega)
          refine ⟨_, rfl, rfl, _, rfl, ?_⟩
          rw [f13]
          refine iteF ?_
          have h10 : call ≤ 10 := by cases co <;> omega
          rw [step_l co h10] at k
          refine ⟨_, rfl, (by show 3 ≤ sizeLine; decide), fun tp htp => ?_⟩
          have g1 : Grow H (upd H tp (.tup [V.int 8, V.int 9, V.int 10])) := Grow.new htp
          refine ⟨tp, _, rfl, .inr (SqT.of upd_same), rfl, rfl, _, rfl, ?_⟩
          have R1 := R.grow g1
          have k1 := k.grow g1
          have hn1 := g1 _ _ hn
          have hda1 := g1 _ _ hda
          generalize (upd H tp (.tup [V.int 8, V.int 9, V.int 10])) = H1 at g1 R1 k1 hn1 hda1
          have fin : ∀ (o2 : Own) (H2 : Hp) (A2 : SA), A2.p = A.p → Rep (clOf t) o2 H2 A2 (Sw55.step s c).1 (W ++ (Sw55.step s c).2.wants) → Ext o H1 o2 H2 → ∀ D, H2 D = none → Q (.ref D) (upd H2 D (.lst [V.int (Sw55.step s c).2.v])) := fun o2 H2 A2 ep R2 ex D hD =>
            k1 o2 _ A2 D ep (R2.grow (Grow.new hD)) (ex.trans (Grow.new hD).ext) (R2.free hD) (fun b u hb ob => ne_of_none (ex b u hb (.inl ob)).1 hD) upd_same
          show if (inV (nv call) [V.int 8, V.int 9, V.int 10]) = true then _ else _
          have ein : inV (nv call) [V.int 8, V.int 9, V.int 10] = decide (call = 8 ∨ call = 9 ∨ call = 10) := by
            have := in_nv call [8, 9, 10]
            rw [show [8, 9, 10].map nv = [V.int 8, V.int 9, V.int 10] from rfl] at this
            rw [this, decide_eq_decide]
            simp
          rw [ein]
          refine ite2 (fun q => ?_) (fun q => ?_)
          · have q1 := of_decide_eq_true q
            exact ⟨_, rfl, _, rfl, _, rfl, o, A, s, W, call, nums, bs, nu, c, rfl, R1, hn1, co, q1, ask, fun o2 H2 A2 ep R2 ex => ⟨(by show 1 ≤ sizeLine; decide), fun D hD => fin o2 H2 A2 ep R2 ex D hD⟩⟩
          · have q1 : call ≤ 7 := by
              have : ¬ (call = 8 ∨ call = 9 ∨ call = 10) := fun y => q (decide_eq_true y)
              omega
            exact ⟨_, rfl, _, rfl, _, rfl, _, rfl, o, A, s, W, call, nums, bs, nu, da, c, rfl, R1, hn1, hda1, oda, hbs, co, q1, ask, fun o2 H2 A2 ep R2 ex => ⟨(by show 1 ≤ sizeLine; decide), fun D hD => fin o2 H2 A2 ep R2 ex D hD⟩⟩
def sp_answer_call (t : Adr) : Sp := fun vs H Q _ => ∃ (o : Own) (A : SA) (s : Server) (W : List Want) (call : Nat) (nums : List Nat) (bs : Bytes) (nu da : Addr) (c : Sw55.Call), vs = [.ref A.p, nv call, .ref nu, .ref da] ∧ Rep (clOf t) o H A s W ∧ H nu = some (.lst (nums.map nv)) ∧ o nu = .out ∧ H da = some (.lst (bs.map nv)) ∧ o da = .out ∧ nu ≠ da ∧ bs.length ≤ 65536 ∧
  CallOf call nums bs c ∧ Ok s ∧ s.asked < 99999 ∧ (Sw55.step s c).2.rest.length ≤ 1000000 ∧
  ∀ (o' : Own) (H' : Hp) (A' : SA) (W' : List Want) (D : Addr), A'.p = A.p → Rep (clOf t) o' H' A' (Sw55.step s c).1 W' → o' D = .out → (∀ b u, H b = some u → o b = .out → b ≠ da → H' b = some u ∧ o' b = .out ∧ b ≠ D) → H' D = some (.lst (V.int (Sw55.step s c).2.v :: (Sw55.step s c).2.rest.map nv)) → Q (.ref D) H'
theorem ok_answer_call (T : Txt K mg t) : FnOk P w K mg base CX0 10 t.fanswer_call t.danswer_call ["server", "call", "numbers", "data"] (sp_answer_call t) := by
  have G_tell : FnOk P w K mg base CX0 9 t.ftell t.dtell ["server", "call", "numbers", "data"] (sp_tell t) := ok_tell T
  refine T.Fanswer_call.ok sc_answer_call (fun vs H Q E h => ?_) (fun cdv A outer s H vs Q E hr h => ?_)
  · obtain ⟨o, A, s, W, call, nums, bs, nu, da, c, rfl, _⟩ := h; rfl
  · obtain ⟨o, A, s, W, call, nums, bs, nu, da, c, rfl, R, hn, on, hda, oda, nnd, hbs, co, ok, has, hl, k⟩ := h
    refine ⟨_, (pss_cons (ps_fld (pv 0) (pe_lst pa_nil) rfl)
      (pss_cons (ps_set (i := 4) sc_answer_call.nd rfl (Or.inl rfl) (pe_call G_tell hr rfl T.mtell T.Ftell.kp T.btell .nil pass0 (pa_cons (pv 0) (pa_cons (pv 1) (pa_cons (pv 2) (pa_cons (pv 3) pa_nil))))))
      (pss_cons (ps_expr (pe_bm PySem.F.plainAttrs_list PySem.F.slot_list_append PySem.F.type_list_append mt_append (pv 4) (pa_cons (pe_callB call_len_seq (by rfl) T.len PySem.boot_len (pa_cons (pe_fld (pv 0) rfl) pa_nil)) pa_nil)))
      (pss_cons (ps_for PassesOwn.never rfl (pi_list (pe_fld (pv 0) rfl)) (pg_name (i := 5) sc_answer_call.nd rfl (Or.inl rfl)) (pss_one (ps_expr (pe_bm PySem.F.plainAttrs_list PySem.F.slot_list_extend PySem.F.type_list_extend mt_extend (pv 4) (pa_cons (pv 5) pa_nil)))))
      (pss_one (ps_ret (pv 4))))))), ?_⟩
    obtain ⟨dx, ge, hp, hge⟩ := R.sv
    refine ⟨(by show 0 ≤ sizeLine; exact Nat.zero_le _), fun w' hw' => ?_⟩
    have npw : A.p ≠ w' := ne_of_none hp hw'
    refine ⟨_, rfl, A.p, t.CServer, dx, sf (rv s A.u) s.now A.d A.r s.ends.isSome ge s.asked s.answered s.refused A.w, rfl, (by rw [upd_ne npw]; exact hp), T.clServer, T.nServer_wants, (by show 10 < 1000; decide), ?_⟩
    obtain ⟨H1, eH1⟩ : ∃ H1, H1 = upd (upd H w' (.lst [])) A.p (.ins t.CServer dx (sf (rv s A.u) s.now A.d A.r s.ends.isSome ge s.asked s.answered s.refused w')) := ⟨_, rfl⟩
    have old1 : ∀ {b : Addr} {u : HO}, H b = some u → b ≠ A.p → H1 b = some u := fun hb n => by rw [eH1, upd_ne n, upd_ne (ne_of_none hb hw')]; exact hb
    have nap : da ≠ A.p := ne_role oda R.os (by intro q; cases q)
    have nnp : nu ≠ A.p := ne_role on R.os (by intro q; cases q)
    have naw : da ≠ w' := ne_of_none hda hw'
    have oo : ∀ {b : Addr} {u : HO}, H b = some u → b ≠ da → setR (setR o w' .wants) da .data b = o b := fun hb n => by rw [setR_ne n, setR_ne (ne_of_none hb hw')]
    have h1w : H1 w' = some (.lst []) := by rw [eH1, upd_ne npw.symm]; exact upd_same
    have h1p : H1 A.p = some (.ins t.CServer dx (sf (rv s A.u) s.now A.d A.r s.ends.isSome ge s.asked s.answered s.refused w')) := by rw [eH1]; exact upd_same
    have R1 : Rep (clOf t) (setR (setR o w' .wants) da .data) H1 { A with w := w', ws := [] } s [] := by
      refine R.neww (fun b u hb n1 n2 => ⟨old1 hb (fun e => n2 (by rw [e]; exact R.os)), oo hb (fun e => n1 (by rw [e]; exact oda))⟩) (fun b nb => ?_) ⟨dx, ge, h1p, hge⟩ (by rw [oo hp nap.symm]; exact R.os) h1w (by rw [setR_ne naw.symm]; exact setR_same)
      by_cases e1 : b = da
      · rw [e1, old1 hda nap]; intro q; cases q
      · rw [setR_ne e1] at nb
        by_cases e2 : b = w'
        · rw [e2, h1w]; intro q; cases q
        · rw [setR_ne e2] at nb
          by_cases e3 : b = A.p
          · rw [e3, h1p]; intro q; cases q
          · cases z : H b with
            | none => exact absurd z (R.dom b nb)
            | some u => rw [old1 z e3]; intro q; cases q
    have wle : (Sw55.step s c).2.wants.length ≤ 1000000 := by
      unfold Ans.rest at hl
      rw [List.length_append, List.length_cons] at hl
      have : (Sw55.step s c).2.wants.length ≤ ((Sw55.step s c).2.wants.flatMap Want.numbers).length := by
        have key : ∀ l : List Want, l.length ≤ (l.flatMap Want.numbers).length := by
          intro l
          induction l with
          | nil => exact Nat.le_refl _
          | cons a r ih =>
            rw [List.flatMap_cons, List.length_append, List.length_cons]
            have : 1 ≤ a.numbers.length := by cases a <;> simp [Want.numbers]
            omega
        exact key _
      omega
    subst eH1
    refine ⟨_, rfl, _, rfl, _, rfl, _, rfl, setR (setR o w' .wants) da .data, { A with w := w', ws := [] }, s, [], call, nums, bs, nu, da, c, rfl, R1, old1 hn nnp, old1 hda nap, setR_same, hbs, co, ⟨ok, has, (by rw [List.length_nil, Nat.zero_add]; show _ < 16777216; omega)⟩, fun o2 H2 A2 D ep2 R2 ex2 oD nD hD => ?_⟩
    rw [List.nil_append] at R2
    obtain ⟨dx2, ge2, hp2, _⟩ := R2.sv
    have ep : A2.p = A.p := ep2
    rw [ep] at hp2
    have nDw : D ≠ A2.w := ne_role oD R2.ow (by intro q; cases q)
    have wl2 : (A2.ws.map V.ref).length = (Sw55.step s c).2.wants.length := by rw [List.length_map, R2.ws.length]
    generalize ean : (Sw55.step s c).2 = an at R2 hD k hl wle wl2
    generalize (Sw55.step s c).1 = s' at R2 k
    obtain ⟨v, l, wants⟩ := an
    dsimp only at R2 hD k hl wle wl2
    have hl' : l.length + ((wants.flatMap Want.numbers).length + 1) ≤ 1000000 := by
      have : (Ans.rest ⟨v, l, wants⟩).length = l.length + ((wants.flatMap Want.numbers).length + 1) := by unfold Ans.rest; rw [List.length_append, List.length_cons]
      rw [← this]; exact hl
    refine ⟨_, rfl, .inl ⟨rfl, _, SqL.of hD⟩, _, rfl, A.p, _, dx2, _, _, rfl, hp2, T.clServer, T.nServer_wants, rfl, A2.w, _, rfl, .inl (SqL.of R2.wl), D, _, _, rfl, rfl, hD, (by rw [List.length_cons, List.length_map]; show _ < 16777216; omega), ?_⟩
    rw [wl2]
    have R3 := R2.upd_out (u := .lst ((V.int v :: l.map nv) ++ [V.int (wants.length : Int)])) oD
    obtain ⟨dx3, ge3, hp3, _⟩ := R3.sv
    rw [ep] at hp3
    have base3 : ∀ b u, H2 b = some u → b ≠ D → (upd H2 D (.lst ((V.int v :: l.map nv) ++ [V.int (wants.length : Int)]))) b = some u := fun b u hb n => by rw [upd_ne n]; exact hb
    have hD3 : (upd H2 D (.lst ((V.int v :: l.map nv) ++ [V.int (wants.length : Int)]))) D = some (.lst ((V.int v :: l.map nv) ++ [V.int (wants.length : Int)])) := upd_same
    generalize (upd H2 D (.lst ((V.int v :: l.map nv) ++ [V.int (wants.length : Int)]))) = H3 at R3 hp3 base3 hD3
    refine ⟨_, rfl, A.p, _, dx3, _, _, rfl, hp3, T.clServer, T.nServer_wants, rfl, A2.w, rfl, ⟨_, SqL.of R3.wl⟩, for_list (K := K) (a := A2.w) (xs := A2.ws.map V.ref) (fun i σ H4 => ∃ x : Option V, σ = [some (.ref A.p), some (nv call), some (.ref nu), some (.ref da), some (.ref D), x] ∧ Rep (clOf t) o2 H4 A2 s' wants ∧
      H4 D = some (.lst ((V.int v :: l.map nv) ++ [V.int (wants.length : Int)] ++ ((wants.take i).flatMap Want.numbers).map nv)) ∧ ∀ b u, H3 b = some u → b ≠ D → H4 b = some u) ⟨none, rfl, R3, by rw [hD3, List.take_zero, List.flatMap_nil, List.map_nil, List.append_nil], fun b u hb _ => hb⟩
      (fun i σ H4 _ ⟨_, _, R4, _, _⟩ => SqL.of R4.wl) ?_ ?_⟩
    · rintro i a σ H4 hi ⟨x, rfl, R4, hD4, old4⟩
      rw [List.getElem?_map] at hi
      obtain ⟨b, hb, rfl⟩ := Option.map_eq_some_iff.mp hi
      obtain ⟨wt, hwt, hb4, ob4⟩ := paired_get R4.ws hb
      have ts := take_succ_of hwt
      have nDb : b ≠ D := ne_role ob4 oD (by intro q; cases q)
      have lnow : ((wants.take (i + 1)).flatMap Want.numbers).length ≤ (wants.flatMap Want.numbers).length := by
        have e4 : wants.flatMap Want.numbers = (wants.take (i + 1)).flatMap Want.numbers ++ (wants.drop (i + 1)).flatMap Want.numbers := by rw [← List.flatMap_append, List.take_append_drop]
        rw [e4, List.length_append]
        omega
      have e5 : (wants.take (i + 1)).flatMap Want.numbers = (wants.take i).flatMap Want.numbers ++ wt.numbers := by rw [ts, List.flatMap_append, List.flatMap_cons, List.flatMap_nil, List.append_nil]
      rw [e5, List.length_append] at lnow
      refine ⟨_, rfl, .inl ⟨rfl, _, SqL.of hD4⟩, _, rfl, D, b, _, _, rfl, rfl, hD4, hb4, ?_, ?_⟩
      · simp only [List.length_append, List.length_map, List.length_cons, List.length_nil]
        show _ ≤ 16777216
        omega
      · refine ⟨some (V.ref b), rfl, R4.upd_out oD, ?_, fun b2 u hb2 n => by rw [upd_ne n]; exact old4 b2 u hb2 n⟩
        rw [upd_same, e5, List.map_append, ← List.append_assoc]
    · rintro σ H4 ⟨x, rfl, R4, hD4, old4⟩
      have e6 : (A2.ws.map V.ref).length = wants.length := wl2
      rw [e6, List.take_length] at hD4
      refine ⟨_, rfl, k o2 H4 A2 wants D ep R4 oD (fun b u hb ob nda => ?_) ?_⟩
      · have nbp : b ≠ A.p := ne_role ob R.os (by intro q; cases q)
        have ob1 : setR (setR o w' .wants) da .data b = .out := by rw [oo hb nda]; exact ob
        obtain ⟨a1, a2⟩ := ex2 b u (old1 hb nbp) (.inl ob1)
        have nbD : b ≠ D := nD b u (old1 hb nbp) ob1
        exact ⟨old4 b u (base3 b u a1 nbD) nbD, a2.trans ob1, nbD⟩
      · rw [hD4]
        unfold Ans.rest
        dsimp only
        rw [List.map_append, List.map_cons, List.append_assoc]
        rfl
end
end Fd
end
section
namespace Fd
open PySem L2 Sw55
def zs (l : List Nat) : List Int := l.map fun n : Nat => (n : Int)
theorem nat_of {z : Int} {b : Nat} (h : Sw55Neutral.natural z b = true) : ∃ n : Nat, z = (n : Int) := by
  unfold Sw55Neutral.natural at h
  rw [Bool.and_eq_true] at h
  have := of_decide_eq_true h.1
  exact ⟨z.toNat, (Int.toNat_of_nonneg this).symm⟩
theorem nats_of : ∀ {l : List Int}, (l.all fun z => Sw55Neutral.natural z 8) = true → ∃ bs : List Nat, l = zs bs
  | [], _ => ⟨[], rfl⟩
  | z :: l, h => by
    rw [List.all_cons, Bool.and_eq_true] at h
    obtain ⟨n, rfl⟩ := nat_of h.1
    obtain ⟨bs, rfl⟩ := nats_of h.2
    exact ⟨n :: bs, rfl⟩
theorem ints_nat (l : List Nat) : (zs l).map Int.toNat = l := by
  unfold zs
  rw [List.map_map]
  conv => rhs; rw [← List.map_id l]
  apply List.map_congr_left
  intro n _
  exact Int.toNat_natCast n
theorem ints_pos (l : List Nat) : ((zs l).all fun z => decide (0 ≤ z)) = true := by
  rw [List.all_eq_true]
  intro z hz
  obtain ⟨n, _, rfl⟩ := List.mem_map.mp hz
  exact decide_eq_true (by omega)
theorem callOf_one {l : List Nat} {c : Sw55.Call} (h : Sw55.readCall l = some c) : Sw55Neutral.callOf [zs l] = some c := by
  unfold Sw55Neutral.callOf
  dsimp only
  rw [if_pos (ints_pos l), ints_nat]
  exact h
theorem callOf_two {l bs : List Nat} {c : Sw55.Call} (h : Sw55.readCall (l ++ bs.length :: bs) = some c) : Sw55Neutral.callOf [zs l, zs bs] = some c := by
  unfold Sw55Neutral.callOf
  have e : ((zs l ++ zs bs).all fun z => decide (0 ≤ z)) = true := by rw [List.all_append, ints_pos, ints_pos]; rfl
  have e2 : (zs bs).length = bs.length := by unfold zs; rw [List.length_map]
  dsimp only
  rw [if_pos e, ints_nat, ints_nat, e2]
  exact h
open Sw55Neutral (natural) in
theorem call_read {c : List (List Int)} (sh : Shp c) (h : Sw55Neutral.asked1 c = true) : ∃ (call : Nat) (nums : List Nat) (bs : Bytes) (cl : Sw55.Call), CallOf call nums bs cl ∧
    ((c = [zs (call :: nums)] ∧ bs = [] ∧ call ≠ 3 ∧ call ≠ 4) ∨ (c = [zs (call :: nums), zs bs] ∧ (call = 3 ∨ call = 4))) ∧ Sw55Neutral.callOf c = some cl := by
  cases sh with
  | s1 a1 a2 a3 a4 a5 a6 a7 a8 a9 =>
    replace h : (natural a1 64 && (natural a2 64 && (natural a3 64 && (natural a4 64 && (natural a5 64 && (natural a6 64 && (natural a7 64 && (natural a8 64 && (natural a9 64))))))))) = true := h
    simp only [Bool.and_eq_true] at h
    obtain ⟨h1, h2, h3, h4, h5, h6, h7, h8, h9⟩ := h
    obtain ⟨a1, rfl⟩ := nat_of h1
    obtain ⟨a2, rfl⟩ := nat_of h2
    obtain ⟨a3, rfl⟩ := nat_of h3
    obtain ⟨a4, rfl⟩ := nat_of h4
    obtain ⟨a5, rfl⟩ := nat_of h5
    obtain ⟨a6, rfl⟩ := nat_of h6
    obtain ⟨a7, rfl⟩ := nat_of h7
    obtain ⟨a8, rfl⟩ := nat_of h8
    obtain ⟨a9, rfl⟩ := nat_of h9
    exact ⟨1, [a1, a2, a3, a4, a5, a6, a7, a8, a9], [], _, .c1 .., .inl ⟨rfl, rfl, by decide, by decide⟩, callOf_one (l := [1, a1, a2, a3, a4, a5, a6, a7, a8, a9]) rfl⟩
  | s2 a1 a2 =>
    replace h : (natural a1 64 && (natural a2 64)) = true := h
    simp only [Bool.and_eq_true] at h
    obtain ⟨h1, h2⟩ := h
    obtain ⟨a1, rfl⟩ := nat_of h1
    obtain ⟨a2, rfl⟩ := nat_of h2
    exact ⟨2, [a1, a2], [], _, .c2 .., .inl ⟨rfl, rfl, by decide, by decide⟩, callOf_one (l := [2, a1, a2]) rfl⟩
  | s3 a1 a2 a3 a4 b =>
    replace h : (natural a1 64 && (natural a2 64 && (natural a3 64 && (natural a4 64 && ((b.all (fun (z : Int) => natural z 8) && decide (b.length ≤ 131072))))))) = true := h
    simp only [Bool.and_eq_true] at h
    obtain ⟨h1, h2, h3, h4, h5, h6⟩ := h
    obtain ⟨a1, rfl⟩ := nat_of h1
    obtain ⟨a2, rfl⟩ := nat_of h2
    obtain ⟨a3, rfl⟩ := nat_of h3
    obtain ⟨a4, rfl⟩ := nat_of h4
    obtain ⟨bs, rfl⟩ := nats_of h5
    refine ⟨3, [a1, a2, a3, a4], bs, _, .c3 .., .inr ⟨rfl, .inl rfl⟩, callOf_two (l := [3, a1, a2, a3, a4]) ?_⟩
    show (if bs.length = bs.length then some (Sw55.Call.asks a1 a2 a3 a4 bs) else none) = _
    rw [if_pos rfl]
  | s4 a1 a2 a3 b =>
    replace h : (natural a1 64 && (natural a2 64 && (natural a3 64 && ((b.all (fun (z : Int) => natural z 8) && decide (b.length ≤ 131072)))))) = true := h
    simp only [Bool.and_eq_true] at h
    obtain ⟨h1, h2, h3, h5, h6⟩ := h
    obtain ⟨a1, rfl⟩ := nat_of h1
    obtain ⟨a2, rfl⟩ := nat_of h2
    obtain ⟨a3, rfl⟩ := nat_of h3
    obtain ⟨bs, rfl⟩ := nats_of h5
    refine ⟨4, [a1, a2, a3], bs, _, .c4 .., .inr ⟨rfl, .inr rfl⟩, callOf_two (l := [4, a1, a2, a3]) ?_⟩
    show (if bs.length = bs.length then some (Sw55.Call.answers a1 a2 a3 bs) else none) = _
    rw [if_pos rfl]
  | s5 a1 a2 a3 =>
    replace h : (natural a1 64 && (natural a2 64 && (natural a3 64))) = true := h
    simp only [Bool.and_eq_true] at h
    obtain ⟨h1, h2, h3⟩ := h
    obtain ⟨a1, rfl⟩ := nat_of h1
    obtain ⟨a2, rfl⟩ := nat_of h2
    obtain ⟨a3, rfl⟩ := nat_of h3
    exact ⟨5, [a1, a2, a3], [], _, .c5 .., .inl ⟨rfl, rfl, by decide, by decide⟩, callOf_one (l := [5, a1, a2, a3]) rfl⟩
  | s6 a1 a2 =>
    replace h : (natural a1 64 && (natural a2 64)) = true := h
    simp only [Bool.and_eq_true] at h
    obtain ⟨h1, h2⟩ := h
    obtain ⟨a1, rfl⟩ := nat_of h1
    obtain ⟨a2, rfl⟩ := nat_of h2
    exact ⟨6, [a1, a2], [], _, .c6 .., .inl ⟨rfl, rfl, by decide, by decide⟩, callOf_one (l := [6, a1, a2]) rfl⟩
  | s7 a1 a2 =>
    replace h : (natural a1 64 && (natural a2 64)) = true := h
    simp only [Bool.and_eq_true] at h
    obtain ⟨h1, h2⟩ := h
    obtain ⟨a1, rfl⟩ := nat_of h1
    obtain ⟨a2, rfl⟩ := nat_of h2
    exact ⟨7, [a1, a2], [], _, .c7 .., .inl ⟨rfl, rfl, by decide, by decide⟩, callOf_one (l := [7, a1, a2]) rfl⟩
  | s8 a1 a2 a3 =>
    replace h : (natural a1 64 && (natural a2 64 && (natural a3 64))) = true := h
    simp only [Bool.and_eq_true] at h
    obtain ⟨h1, h2, h3⟩ := h
    obtain ⟨a1, rfl⟩ := nat_of h1
    obtain ⟨a2, rfl⟩ := nat_of h2
    obtain ⟨a3, rfl⟩ := nat_of h3
    exact ⟨8, [a1, a2, a3], [], _, .c8 .., .inl ⟨rfl, rfl, by decide, by decide⟩, callOf_one (l := [8, a1, a2, a3]) rfl⟩
  | s9 a1 =>
    replace h : (natural a1 64) = true := h
    obtain ⟨a1, rfl⟩ := nat_of h
    exact ⟨9, [a1], [], _, .c9 .., .inl ⟨rfl, rfl, by decide, by decide⟩, callOf_one (l := [9, a1]) rfl⟩
  | s10 a1 a2 =>
    replace h : (natural a1 64 && (natural a2 64)) = true := h
    simp only [Bool.and_eq_true] at h
    obtain ⟨h1, h2⟩ := h
    obtain ⟨a1, rfl⟩ := nat_of h1
    obtain ⟨a2, rfl⟩ := nat_of h2
    exact ⟨10, [a1, a2], [], _, .c10 .., .inl ⟨rfl, rfl, by decide, by decide⟩, callOf_one (l := [10, a1, a2]) rfl⟩
  | s11 =>
    exact ⟨11, [], [], _, .c11, .inl ⟨rfl, rfl, by decide, by decide⟩, callOf_one (l := [11]) rfl⟩
  | s12 =>
    exact ⟨12, [], [], _, .c12, .inl ⟨rfl, rfl, by decide, by decide⟩, callOf_one (l := [12]) rfl⟩
  | s13 a1 =>
    replace h : (natural a1 64) = true := h
    obtain ⟨a1, rfl⟩ := nat_of h
    exact ⟨13, [a1], [], _, .c13 .., .inl ⟨rfl, rfl, by decide, by decide⟩, callOf_one (l := [13, a1]) rfl⟩
theorem step_of {s : Server} {c : List (List Int)} {cl : Sw55.Call} (h : Sw55Neutral.callOf c = some cl) : Sw55Neutral.step s c = ((Sw55.step s cl).1, (Sw55.step s cl).2.v :: zs (Sw55.step s cl).2.rest) := by
  unfold Sw55Neutral.step
  rw [h]
  rfl
def numsOf : List (Key × V) := [(1, 9), (2, 2), (3, 4), (4, 3), (5, 3), (6, 2), (7, 2), (8, 3), (9, 1), (10, 2), (11, 0), (12, 0), (13, 1)].map fun p : Int × Int => (Sum.inl p.1, V.int p.2)
theorem numsOf_at {call : Nat} {nums : List Nat} {bs : Bytes} {cl : Sw55.Call} (h : CallOf call nums bs cl) : valV numsOf (Sum.inl (call : Int)) = some (V.int (nums.length : Int)) := by
  cases h <;> rfl
theorem cut_at {ns : List Int} {p q : Nat} (h : p + q ≤ ns.length) : cutV (ns.map V.int) (some (p : Int)) (some ((p + q : Nat) : Int)) = ((ns.drop p).take q).map V.int := by
  unfold cutV
  have e1 : min p ns.length = p := by omega
  have e2 : min (p + q) ns.length = p + q := by omega
  have e3 : p + q - p = q := by omega
  rw [HT.sIx_nat, HT.sIx_nat, List.length_map, e1, e2, e3, List.map_take, List.map_drop]
theorem nv_of_ints (l : List Nat) : (zs l).map V.int = l.map nv := by unfold zs; rw [List.map_map]; rfl
def In (K : PySem.W.Frag) (o : Own) (H : Hp) (gl a : Addr) (xs : List V) : Prop := (Rd H a (.lst xs) ∧ o a = .out ∧ a ≠ gl) ∨ ∃ (ob : Obj) (its : Array Value) (n : Nat), K.lookup a = some ob ∧ ob.cls = .type "list" ∧ ob.dict = none ∧ ob.data = .seq its n ∧ its.size ≤ sizeLine ∧ Vals xs its.toList
theorem In.sq {K : PySem.W.Frag} {o : Own} {H : Hp} {gl a : Addr} {xs : List V} (h : In K o H gl a xs) : SqL K H a xs := h.elim (fun z => .inl z.1) .inr
theorem In.keep {K : PySem.W.Frag} {o o' : Own} {H H' : Hp} {gl a : Addr} {xs : List V} (h : In K o H gl a xs) (f : ∀ u, H a = some u → o a = .out → a ≠ gl → H' a = some u ∧ o' a = .out) : In K o' H' gl a xs := by
  rcases h with ⟨r, oa, n⟩ | h
  · left
    rcases r with r | ⟨ob, r⟩
    · obtain ⟨a1, a2⟩ := f _ r oa n
      exact ⟨.inl a1, a2, n⟩
    · obtain ⟨a1, a2⟩ := f _ r oa n
      exact ⟨.inr ⟨ob, a1⟩, a2, n⟩
  · exact .inr h
theorem SqL.in {K : PySem.W.Frag} {o' : Own} {H H' : Hp} {gl a : Addr} {xs : List V} (h : SqL K H a xs) (f : ∀ u, H a = some u → H' a = some u ∧ o' a = .out ∧ a ≠ gl) : In K o' H' gl a xs := by
  rcases h with r | h
  · left
    rcases r with r | ⟨ob, r⟩
    · obtain ⟨a1, a2, a3⟩ := f _ r
      exact ⟨.inl a1, a2, a3⟩
    · obtain ⟨a1, a2, a3⟩ := f _ r
      exact ⟨.inr ⟨ob, a1⟩, a2, a3⟩
  · exact .inr h
end Fd
end
section
namespace Fd
open PySem L2 Sw55
structure Loop (t : Adr) (K : PySem.W.Frag) (a : Addr) (ns : List Int) (x0 gl : Addr) (p : Nat) (o : Own) (H : Hp) (A : SA) (s : Server) (W : List Want) (out : List Int) (cs : List (List (List Int))) (n room : Nat) : Prop where
  rep : Rep (clOf t) o H A s W
  ap : A.p = x0
  og : o gl = .out
  hg : H gl = some (.lst (out.map V.int))
  hin : In K o H gl a (ns.map V.int)
  pl : p ≤ ns.length
  cl : ∃ f, PyFlat.calls PySw55.shape f (ns.drop p) = some cs
  ask : Asks s cs n room
  ok : Ok s
  sa : s.asked + n ≤ 1000
  le : out.length + n + room ≤ 1001000
  rm : room ≤ 1000000
  eq : PySw55.answers ns = out ++ PyFlat.told (PyFlat.played Sw55Neutral.step s cs)
theorem In.grow {K : PySem.W.Frag} {o : Own} {H H' : Hp} {gl a : Addr} {xs : List V} (h : In K o H gl a xs) (g : Grow H H') : In K o H' gl a xs := h.keep fun u hu oa _ => ⟨g _ _ hu, oa⟩
theorem start_rep {t : Adr} {H H' : Hp} {x dx d r w : Addr} (hd : d ≠ r) (hw : d ≠ w) (hrw : r ≠ w) (nx : x ≠ d) (nr : x ≠ r) (nw : x ≠ w) (hx : H' x = some (.ins t.CServer dx (sf .non 0 d r false 0 0 0 0 w))) (h1 : H' d = some (.dK [])) (h2 : H' r = some (.lst [])) (h3 : H' w = some (.lst [])) :
    Rep (clOf t) (fun b => if b = x then .srv else if b = d then .dict else if b = r then .row else if b = w then .wants else .out) H' ⟨x, x, d, r, w, [], []⟩ Sw55Neutral.start [] where
  dom := fun b n => by
    by_cases e1 : b = x
    · rw [e1, hx]; intro q; cases q
    · rw [if_neg e1] at n
      by_cases e2 : b = d
      · rw [e2, h1]; intro q; cases q
      · rw [if_neg e2] at n
        by_cases e3 : b = r
        · rw [e3, h2]; intro q; cases q
        · rw [if_neg e3] at n
          by_cases e4 : b = w
          · rw [e4, h3]; intro q; cases q
          · rw [if_neg e4] at n; exact absurd rfl n
  sv := ⟨dx, 0, hx, fun e q => nomatch q⟩
  os := if_pos rfl
  ru := fun r e => nomatch e
  di := h1
  od := by show (if d = x then _ else _) = _; rw [if_neg nx.symm, if_pos rfl]
  rl := h2
  orow := by show (if r = x then _ else _) = _; rw [if_neg nr.symm, if_neg hd.symm, if_pos rfl]
  wl := h3
  ow := by show (if w = x then _ else _) = _; rw [if_neg nw.symm, if_neg hw.symm, if_neg hrw.symm, if_pos rfl]
  ws := .nil
  ky := .nil
  gu := fun g hg => nomatch hg
theorem zs_cons {call : Nat} {nums : List Nat} {p0 : Int} {r : List Int} {n : Nat} (h : zs (call :: nums) = p0 :: r.take n) (hn : n ≤ r.length) : p0 = (call : Int) ∧ r.take n = zs nums ∧ n = nums.length := by
  have h1 : (call : Int) :: zs nums = p0 :: r.take n := h
  injection h1 with e1 e2
  refine ⟨e1.symm, e2.symm, ?_⟩
  have := congrArg List.length e2
  unfold zs at this
  rw [List.length_map, List.length_take] at this
  omega
section
variable {P : Program} {w : World} {K : PySem.W.Frag} {mg : Str → Option Value} {base : Heap} {t : Adr}
def sp_answers (K : PySem.W.Frag) : Sp := fun vs H Q _ => ∃ (a : Addr) (ns : List Int), vs = [.ref a] ∧ SqL K H a (ns.map V.int) ∧ ns.length ≤ 16000 ∧ PySw55.answers_asked ns = true ∧ ∀ (l : Addr) (H' : Hp), H' l = some (.lst ((PySw55.answers ns).map V.int)) → Q (.ref l) H'
theorem ok_answers (T : Txt K mg t) (hD : DIn P w K t.gNUMBERS_OF numsOf) : FnOk P w K mg base CX0 11 t.fanswers t.danswers ["calls"] (sp_answers K) := by
  have G_answer_call : FnOk P w K mg base CX0 10 t.fanswer_call t.danswer_call ["server", "call", "numbers", "data"] (sp_answer_call t) := ok_answer_call T
  have G_Server_init : FnOk P w K mg base CX0 9 t.fServer_init t.dServer_init ["self"] (sp_Server_init t) := (ok_Server_init T).mono (by decide)
  refine T.Fanswers.ok sc_answers (fun vs H Q E h => ?_) (fun cdv A outer s H vs Q E hr h => ?_)
  · obtain ⟨a, ns, rfl, _⟩ := h; rfl
  · obtain ⟨a, ns, rfl, hsq, hlen, hask, k⟩ := h
    refine ⟨_, (pss_cons (ps_set (i := 1) sc_answers.nd rfl (Or.inl rfl) (pe_make0 T.MServer G_Server_init hr rfl T.mServer T.bServer_init .nil pass0))
      (pss_cons (ps_set (i := 2) sc_answers.nd rfl (Or.inl rfl) (pe_lst pa_nil))
      (pss_cons (ps_set (i := 3) sc_answers.nd rfl (Or.inl rfl) pe_int)
      (pss_cons (ps_while PassesOwn.never (pt_cmpR op_lt (pv 3) (pe_callB call_len_seq (by rfl) T.len PySem.boot_len (pa_cons (pv 0) pa_nil)) (nomark _)) (pss_cons (ps_set (i := 4) sc_answers.nd rfl (Or.inl rfl) (pe_ix ix_list (pv 0) (pv 3) (fun _ _ => rfl)))
      (pss_cons (ps_set (i := 5) sc_answers.nd rfl (Or.inl rfl) (pe_op op_add (pe_op op_add (pv 3) pe_int) (pe_gdget hD (pe_glob (v := V.ref t.gNUMBERS_OF) rfl T.mNUMBERS_OF rfl) (pv 4) (fun _ _ => rfl))))
      (pss_cons (ps_set (i := 6) sc_answers.nd rfl (Or.inl rfl) (pe_slice sl_list (pv 0) (po_some (pe_op op_add (pv 3) pe_int)) (po_some (pv 5))))
      (pss_cons (ps_set (i := 7) sc_answers.nd rfl (Or.inl rfl) (pe_lst pa_nil))
      (pss_cons (ps_set (i := 3) sc_answers.nd rfl (Or.inl rfl) (pv 5))
      (pss_cons (ps_if (pt_cmpR op_in_seq (pv 4) (pe_tup (pa_cons (pe_gi rfl T.cASKS) (pa_cons (pe_gi rfl T.cANSWERS) pa_nil))) (by rfl)) (pss_cons (ps_set (i := 3) sc_answers.nd rfl (Or.inl rfl) (pe_op op_add (pe_op op_add (pv 5) pe_int) (pe_ix ix_list (pv 0) (pv 5) (fun _ _ => rfl))))
      (pss_one (ps_set (i := 7) sc_answers.nd rfl (Or.inl rfl) (pe_slice sl_list (pv 0) (po_some (pe_op op_add (pv 5) pe_int)) (po_some (pv 3)))))) pss_nil)
      (pss_cons (ps_set (i := 8) sc_answers.nd rfl (Or.inl rfl) (pe_call G_answer_call hr rfl T.manswer_call T.Fanswer_call.kp T.banswer_call .nil pass0 (pa_cons (pv 1) (pa_cons (pv 4) (pa_cons (pv 6) (pa_cons (pv 7) pa_nil))))))
      (pss_cons (ps_expr (pe_bm PySem.F.plainAttrs_list PySem.F.slot_list_append PySem.F.type_list_append mt_append (pv 2) (pa_cons (pe_callB call_len_seq (by rfl) T.len PySem.boot_len (pa_cons (pv 8) pa_nil)) pa_nil)))
      (pss_one (ps_expr (pe_bm PySem.F.plainAttrs_list PySem.F.slot_list_extend PySem.F.type_list_extend mt_extend (pv 2) (pa_cons (pv 8) pa_nil)))))))))))))
      (pss_one (ps_ret (pv 2))))))), ?_⟩
    refine fun x dx hx hdx ndx => ?_
    refine ⟨x, dx, rfl, upd_same, fun H1 d r w' hd hr' hw hdr hdw hrw h1x h1d h1r h1w old => ⟨rfl, ?_⟩⟩
    have nxd : x ≠ d := ne_of_none upd_same hd
    have nxr : x ≠ r := ne_of_none upd_same hr'
    have nxw : x ≠ w' := ne_of_none upd_same hw
    have R0 := start_rep (H := H) hdr hdw hrw nxd nxr nxw h1x h1d h1r h1w
    have hfr : ∀ {y : Addr}, (upd (upd H dx (.own x)) x (.ins t.CServer dx [])) y = none → H y = none := fun {y} e => by
      cases z : H y with
      | none => rfl
      | some u =>
        rw [upd_ne (ne_of_none z hx), upd_ne (ne_of_none z hdx), z] at e
        cases e
    have hd0 := hfr hd
    have hr0 := hfr hr'
    have hw0 := hfr hw
    have old1 : ∀ {b : Addr} {u : HO}, H b = some u → H1 b = some u := fun {b u} hb => by
      rw [old b (ne_of_none hb hx) (ne_of_none hb hd0) (ne_of_none hb hr0) (ne_of_none hb hw0), upd_ne (ne_of_none hb hx), upd_ne (ne_of_none hb hdx)]
      exact hb
    have out1 : ∀ u, H a = some u → (fun b => if b = x then Role.srv else if b = d then .dict else if b = r then .row else if b = w' then .wants else .out) a = .out := fun u hu => by
      show (if a = x then _ else _) = _
      rw [if_neg (ne_of_none hu hx), if_neg (ne_of_none hu hd0), if_neg (ne_of_none hu hr0), if_neg (ne_of_none hu hw0)]
    generalize (fun b => if b = x then Role.srv else if b = d then .dict else if b = r then .row else if b = w' then .wants else .out) = o1 at R0 out1
    refine ⟨(by show 0 ≤ sizeLine; exact Nat.zero_le _), fun gl hgl => ?_⟩
    have g2 : Grow H1 (upd H1 gl (.lst [])) := Grow.new hgl
    have in2 : In K o1 (upd H1 gl (.lst [])) gl a (ns.map V.int) := SqL.in hsq fun u hu => ⟨g2 _ _ (old1 hu), out1 u hu, ne_of_none (old1 hu) hgl⟩
    obtain ⟨cs0, ec0, ea0, asks0⟩ := asked_iff hask
    refine ⟨fun m σ H2 => ∃ (v4 v5 v6 v7 v8 : Option V) (p : Nat) (o : Own) (A : SA) (s : Server) (W : List Want) (out : List Int) (cs : List (List (List Int))) (n room : Nat), σ = [some (.ref a), some (.ref x), some (.ref gl), some (nv p), v4, v5, v6, v7, v8] ∧ Loop t K a ns x gl p o H2 A s W out cs n room ∧ m = cs.length,
      ⟨cs0.length, none, none, none, none, none, 0, o1, _, _, [], [], cs0, 1000, 1000000, rfl, ⟨R0.grow g2, rfl, R0.free hgl, upd_same, in2, Nat.zero_le _, ⟨ns.length, ec0⟩, asks0, start_ok, (by show 0 + 1000 ≤ 1000; decide), (by show 0 + 1000 + 1000000 ≤ 1001000; decide), Nat.le_refl _, ?_⟩, rfl⟩, ?_⟩
    · rw [List.nil_append]; exact ea0
    · rintro m σ H2 ⟨v4, v5, v6, v7, v8, p, o, A, s, W, out, cs, n, room, rfl, L, rfl⟩
      refine ⟨_, rfl, _, rfl, a, _, rfl, .inl L.hin.sq, _, _, rfl, rfl, _, rfl, ?_⟩
      rw [List.length_map]
      refine ite2 (fun q => ?_) (fun q => ?_)
      · have hlt : p < ns.length := by have := of_decide_eq_true q; omega
        obtain ⟨f, ecs⟩ := L.cl
        have edrop : ns.drop p = ns[p] :: ns.drop (p + 1) := List.drop_eq_getElem_cons hlt
        rw [edrop] at ecs
        obtain ⟨f', c, tl, cs', ecall, ecs', rfl⟩ := calls_cons ecs
        obtain ⟨ask1, lroom, asks', n1⟩ := L.ask.next
        obtain ⟨call, nums, bs, cl, co, shp, eof⟩ := call_read (call_shp ecall) ask1
        obtain ⟨n', k', eshape, nle, parts⟩ := call_parts ecall
        rw [step_of eof] at lroom asks'
        have lstep : ((Sw55.step s cl).2.v :: zs (Sw55.step s cl).2.rest).length = (Sw55.step s cl).2.rest.length + 1 := by unfold zs; rw [List.length_cons, List.length_map]
        dsimp only at lroom asks'
        rw [lstep] at lroom asks'
        have nx := step_ok L.ok cl
        have hL := L.le
        have hS := L.sa
        have hR := L.rm
        have next : ∀ (p2 : Nat) (o' : Own) (H' : Hp) (A' : SA) (W' : List Want) (D : Addr), p2 ≤ ns.length → ns.drop p2 = tl → A'.p = A.p → Rep (clOf t) o' H' A' (Sw55.step s cl).1 W' → In K o' H' gl a (ns.map V.int) → o' gl = .out → gl ≠ D → H' gl = some (.lst (out.map V.int)) → H' D = some (.lst (V.int (Sw55.step s cl).2.v :: (Sw55.step s cl).2.rest.map nv)) →
            (out.map V.int).length < sizeLine ∧ ((out.map V.int) ++ [V.int (((V.int (Sw55.step s cl).2.v :: (Sw55.step s cl).2.rest.map nv).length : Nat) : Int)]).length + (V.int (Sw55.step s cl).2.v :: (Sw55.step s cl).2.rest.map nv).length ≤ sizeLine ∧
            Loop t K a ns x gl p2 o' (upd H' gl (.lst (((out.map V.int) ++ [V.int (((V.int (Sw55.step s cl).2.v :: (Sw55.step s cl).2.rest.map nv).length : Nat) : Int)]) ++ (V.int (Sw55.step s cl).2.v :: (Sw55.step s cl).2.rest.map nv)))) A' (Sw55.step s cl).1 W' (out ++ ((((Sw55.step s cl).2.rest.length + 1 : Nat) : Int) :: (Sw55.step s cl).2.v :: zs (Sw55.step s cl).2.rest)) cs' (n - 1) (room - ((Sw55.step s cl).2.rest.length + 1)) := by
          intro p2 o' H' A' W' D hp2 ed ep R' hin' og' nD hg' hD'
          refine ⟨?_, ?_, ?_⟩
          · rw [List.length_map]; show _ < 16777216; omega
          · simp only [List.length_append, List.length_map, List.length_cons, List.length_nil]
            show _ ≤ 16777216
            omega
          · refine ⟨R'.upd_out og', ep.trans L.ap, og', ?_, hin'.keep fun u hu oa nn => ⟨by rw [upd_ne nn]; exact hu, oa⟩, hp2, ⟨f', by rw [ed]; exact ecs'⟩, asks', nx.ok, ?_, ?_, by omega, ?_⟩
            · rw [upd_same, List.map_append, List.map_cons, List.map_cons, nv_of_ints, List.length_cons, List.length_map, List.append_assoc]
              rfl
            · have := nx.asked; omega
            · rw [List.length_append, List.length_cons, List.length_cons]
              unfold zs
              rw [List.length_map]
              omega
            · rw [L.eq, played_cons, told_cons, step_of eof, lstep, List.append_assoc]
        have hinb := L.hin.sq
        have hat : (ns.map V.int)[p]? = some (V.int ns[p]) := by rw [List.getElem?_map, List.getElem?_eq_getElem hlt]; rfl
        have has : s.asked < 99999 := by omega
        refine ⟨fun σ' H' => ∃ m', m' < (c :: cs').length ∧ ∃ (v4 v5 v6 v7 v8 : Option V) (p : Nat) (o : Own) (A : SA) (s : Server) (W : List Want) (out : List Int) (cs : List (List (List Int))) (n room : Nat), σ' = [some (.ref a), some (.ref x), some (.ref gl), some (nv p), v4, v5, v6, v7, v8] ∧ Loop t K a ns x gl p o H' A s W out cs n room ∧ m' = cs.length, fun _ _ h => h, ?_⟩
        refine ⟨_, rfl, _, rfl, a, _, _, _, rfl, rfl, hinb, atI_nat (j := p) hat, ?_⟩
        have ep0 : ns[p] = (call : Int) ∧ (ns.drop (p + 1)).take n' = zs nums ∧ n' = nums.length := by
          rcases parts with ⟨_, e1, _⟩ | ⟨_, m, qq, _, _, e1, _⟩
          · rcases shp with ⟨e2, _, _, _⟩ | ⟨e2, _⟩
            · rw [e2] at e1
              exact zs_cons (List.cons.inj e1).1 nle
            · rw [e2] at e1
              exact absurd (congrArg List.length e1) (by simp)
          · rcases shp with ⟨e2, _, _, _⟩ | ⟨e2, _⟩
            · rw [e2] at e1
              exact absurd (congrArg List.length e1) (by simp)
            · rw [e2] at e1
              exact zs_cons (List.cons.inj e1).1 nle
        obtain ⟨ep0, etake, rfl⟩ := ep0
        rw [ep0]
        rw [List.length_drop] at nle
        have hple : p + 1 + nums.length ≤ ns.length := by clear parts shp; omega
        have hrest : (Sw55.step s cl).2.rest.length ≤ 1000000 := by clear parts shp; omega
        refine ⟨_, rfl, _, _, rfl, rfl, _, rfl, rfl, Sum.inl (call : Int), _, rfl, numsOf_at co, _, _, rfl, rfl, ?_⟩
        dsimp only
        have e5 : (p : Int) + 1 + (nums.length : Int) = ((p + 1 + nums.length : Nat) : Int) := by omega
        rw [e5]
        refine ⟨_, rfl, _, rfl, _, _, rfl, rfl, _, rfl, _, rfl, _, rfl, a, _, rfl, hinb, fun nu hnu => ?_⟩
        have e6 : (p : Int) + 1 = ((p + 1 : Nat) : Int) := by omega
        rw [e6, cut_at (by omega), etake, nv_of_ints]
        have g3 : Grow H2 (upd H2 nu (.lst (nums.map nv))) := Grow.new hnu
        have h3n : (upd H2 nu (.lst (nums.map nv))) nu = some (.lst (nums.map nv)) := upd_same
        generalize (upd H2 nu (.lst (nums.map nv))) = H3 at g3 h3n
        refine ⟨(by show 0 ≤ sizeLine; exact Nat.zero_le _), fun dl hdl => ?_⟩
        have g4 : Grow H2 (upd H3 dl (.lst [])) := g3.trans (Grow.new hdl)
        have h4d : (upd H3 dl (.lst [])) dl = some (.lst []) := upd_same
        have h4n : (upd H3 dl (.lst [])) nu = some (.lst (nums.map nv)) := Grow.new hdl _ _ h3n
        have hdl0 : H2 dl = none := g3.none hdl
        have nnd : nu ≠ dl := ne_of_none h3n hdl
        generalize (upd H3 dl (.lst [])) = H4 at g4 h4d h4n
        refine ⟨_, rfl, ?_⟩
        refine ⟨_, rfl, (by show 2 ≤ sizeLine; decide), fun tp htp => ?_⟩
        have g5 : Grow H4 (upd H4 tp (.tup [V.int 3, V.int 4])) := Grow.new htp
        refine ⟨tp, _, rfl, .inr (SqT.of upd_same), rfl, rfl, _, rfl, ?_⟩
        have h5d := g5 _ _ h4d
        have h5n := g5 _ _ h4n
        have g6 := g4.trans g5
        generalize (upd H4 tp (.tup [V.int 3, V.int 4])) = H5 at g5 h5d h5n g6
        have R5 := L.rep.grow g6
        have in5 := L.hin.grow g6
        have hg5 := g6 _ _ L.hg
        have onu : o nu = .out := L.rep.free hnu
        have odl : o dl = .out := L.rep.free hdl0
        have ngn : gl ≠ nu := ne_of_none L.hg hnu
        have ngd : gl ≠ dl := ne_of_none L.hg hdl0
        show if (inV (nv call) [V.int 3, V.int 4]) = true then _ else _
        have ein : inV (nv call) [V.int 3, V.int 4] = decide (call = 3 ∨ call = 4) := by
          have := in_nv call [3, 4]
          rw [show [3, 4].map nv = [V.int 3, V.int 4] from rfl] at this
          rw [this, decide_eq_decide]
          simp
        rw [ein]
        refine ite2 (fun y => ?_) (fun y => ?_)
        · have y1 := of_decide_eq_true y
          obtain ⟨m, qq, edr, mle, ec, rfl⟩ : ∃ (m : Nat) (qq : List Int), (ns.drop (p + 1)).drop nums.length = (m : Int) :: qq ∧ m ≤ qq.length ∧ c = [ns[p] :: (ns.drop (p + 1)).take nums.length, qq.take m] ∧ tl = qq.drop m := by
            rcases parts with ⟨_, e1, _⟩ | ⟨_, m, qq, e2, e3, e4, e5⟩
            · rcases shp with ⟨_, _, n3, n4⟩ | ⟨e2, _⟩
              · rcases y1 with y1 | y1
                · exact absurd y1 n3
                · exact absurd y1 n4
              · rw [e2] at e1
                exact absurd (congrArg List.length e1) (by simp)
            · exact ⟨m, qq, e2, e3, e4, e5⟩
          have ebs : qq.take m = zs bs := by
            rcases shp with ⟨e2, _, _, _⟩ | ⟨e2, _⟩
            · rw [e2] at ec
              exact absurd (congrArg List.length ec) (by simp)
            · rw [e2] at ec
              have := (List.cons.inj (List.cons.inj ec).2).1
              exact this.symm
          rw [List.drop_drop] at edr
          have ldr := congrArg List.length edr
          rw [List.length_drop, List.length_cons] at ldr
          have hatd : (ns.map V.int)[p + 1 + nums.length]? = some (V.int (m : Int)) := by
            rw [List.getElem?_map]
            have : (ns.drop (p + 1 + nums.length))[0]? = some (m : Int) := by rw [edr]; rfl
            rw [List.getElem?_drop, Nat.add_zero] at this
            rw [this]
            rfl
          have eq1 : ns.drop (p + 1 + nums.length + 1) = qq := by
            rw [← List.drop_drop, edr]
            rfl
          refine ⟨_, rfl, _, _, rfl, rfl, _, rfl, _, rfl, a, _, _, _, rfl, rfl, in5.sq, atI_nat (j := p + 1 + nums.length) hatd, _, _, rfl, rfl, ?_⟩
          dsimp only
          have e7 : ((p + 1 + nums.length : Nat) : Int) + 1 + (m : Int) = ((p + 1 + nums.length + 1 + m : Nat) : Int) := by omega
          rw [e7]
          refine ⟨_, rfl, _, rfl, _, _, rfl, rfl, _, rfl, _, rfl, _, rfl, a, _, rfl, in5.sq, fun da hda => ?_⟩
          have e8 : ((p + 1 + nums.length : Nat) : Int) + 1 = ((p + 1 + nums.length + 1 : Nat) : Int) := by omega
          rw [e8, cut_at (by omega), eq1, ebs, nv_of_ints]
          have g7 : Grow H5 (upd H5 da (.lst (bs.map nv))) := Grow.new hda
          have h7a : (upd H5 da (.lst (bs.map nv))) da = some (.lst (bs.map nv)) := upd_same
          have nna : nu ≠ da := ne_of_none h5n hda
          have nga : gl ≠ da := ne_of_none hg5 hda
          have oda : o da = .out := R5.free hda
          have aa : ∀ u, H5 a = some u → a ≠ da := fun u hu => ne_of_none hu hda
          have h7n := g7 _ _ h5n
          have R7 := R5.grow g7
          have hg7 := g7 _ _ hg5
          have in7 := in5.grow g7
          generalize hH7 : (upd H5 da (.lst (bs.map nv))) = H7 at g7 h7a h7n R7 hg7 in7
          have lbs : bs.length ≤ 65536 := by
            have := congrArg List.length ebs
            unfold zs at this
            rw [List.length_take, List.length_map] at this
            omega
          refine ⟨_, rfl, _, rfl, _, rfl, _, rfl, o, A, s, W, call, nums, bs, nu, da, cl, (by rw [L.ap]; rfl), R7, h7n, onu, h7a, oda, nna, lbs, co, L.ok, has, hrest, fun o8 H8 A8 W8 D ep8 R8 oD8 keep8 hD8 => ?_⟩
          obtain ⟨g8, og8, ngD⟩ := keep8 gl _ hg7 L.og nga
          have in8 : In K o8 H8 gl a (ns.map V.int) := L.hin.keep fun u hu oa _ => by
            have h5 := g6 _ _ hu
            obtain ⟨k1, k2, _⟩ := keep8 a u (g7 _ _ h5) oa (aa u h5)
            exact ⟨k1, k2⟩
          obtain ⟨b1, b2, b3⟩ := next (p + 1 + nums.length + 1 + m) o8 H8 A8 W8 D (by omega) (by rw [← List.drop_drop, eq1]) ep8 R8 in8 og8 ngD g8 hD8
          refine ⟨_, rfl, .inl ⟨rfl, _, SqL.of g8⟩, _, rfl, D, _, rfl, .inl (SqL.of hD8), gl, _, _, rfl, rfl, g8, b1, ?_⟩
          refine ⟨_, rfl, .inl ⟨rfl, _, SqL.of upd_same⟩, _, rfl, gl, D, _, _, rfl, rfl, upd_same, (by rw [upd_ne ngD.symm]; exact hD8), b2, ?_⟩
          rw [upd_upd]
          exact ⟨_, Nat.lt_succ_self _, _, _, _, _, _, _, _, _, _, _, _, _, _, _, rfl, b3, rfl⟩
        · have y1 : ¬ (call = 3 ∨ call = 4) := fun z => y (decide_eq_true z)
          have etl : tl = (ns.drop (p + 1)).drop nums.length ∧ bs = [] := by
            rcases parts with ⟨_, _, e3⟩ | ⟨_, m, qq, _, _, e1, _⟩
            · rcases shp with ⟨_, eb, _, _⟩ | ⟨_, e2⟩
              · exact ⟨e3, eb⟩
              · exact absurd e2 y1
            · rcases shp with ⟨e2, _, _, _⟩ | ⟨_, e2⟩
              · rw [e2] at e1
                exact absurd (congrArg List.length e1) (by simp)
              · exact absurd e2 y1
          obtain ⟨etl, rfl⟩ := etl
          refine ⟨_, rfl, _, rfl, _, rfl, _, rfl, o, A, s, W, call, nums, [], nu, dl, cl, (by rw [L.ap]; rfl), R5, h5n, onu, h5d, odl, nnd, (by show 0 ≤ 65536; decide), co, L.ok, has, hrest, fun o8 H8 A8 W8 D ep8 R8 oD8 keep8 hD8 => ?_⟩
          obtain ⟨g8, og8, ngD⟩ := keep8 gl _ hg5 L.og ngd
          have in8 : In K o8 H8 gl a (ns.map V.int) := L.hin.keep fun u hu oa _ => by
            obtain ⟨k1, k2, _⟩ := keep8 a u (g6 _ _ hu) oa (ne_of_none hu hdl0)
            exact ⟨k1, k2⟩
          obtain ⟨b1, b2, b3⟩ := next (p + 1 + nums.length) o8 H8 A8 W8 D hple (by rw [etl, List.drop_drop]) ep8 R8 in8 og8 ngD g8 hD8
          refine ⟨_, rfl, .inl ⟨rfl, _, SqL.of g8⟩, _, rfl, D, _, rfl, .inl (SqL.of hD8), gl, _, _, rfl, rfl, g8, b1, ?_⟩
          refine ⟨_, rfl, .inl ⟨rfl, _, SqL.of upd_same⟩, _, rfl, gl, D, _, _, rfl, rfl, upd_same, (by rw [upd_ne ngD.symm]; exact hD8), b2, ?_⟩
          rw [upd_upd]
          exact ⟨_, Nat.lt_succ_self _, _, _, _, _, _, _, _, _, _, _, _, _, _, _, rfl, b3, rfl⟩
      · have hge : ns.length ≤ p := by
          rcases Nat.lt_or_ge p ns.length with y | y
          · exact absurd (decide_eq_true (by omega)) q
          · exact y
        obtain ⟨f, ecs⟩ := L.cl
        rw [List.drop_eq_nil_of_le hge] at ecs
        have ecs := calls_nil ecs
        have eq := L.eq
        rw [ecs] at eq
        have : PyFlat.told (PyFlat.played Sw55Neutral.step s []) = [] := rfl
        rw [this, List.append_nil] at eq
        exact ⟨_, rfl, k gl H2 (by rw [L.hg, eq])⟩
end
end Fd
end
section
namespace Fd
open PySem L2
def intOf : Value → Option Int
  | .int i _ => some i
  | _ => none
theorem intOf_is : ∀ {v : Value} {i : Int}, intOf v = some i → ∃ t, v = .int i t
  | .int _ t, _, rfl => ⟨t, rfl⟩
def entOf (e : DictEntry) : Option (Int × Int × Int) := (intOf e.key).bind fun i => (intOf e.val).map fun v => (e.hash, i, v)
theorem entOf_is {e : DictEntry} {h i v : Int} (q : entOf e = some (h, i, v)) : e.hash = h ∧ (∃ t, e.key = .int i t) ∧ ∃ t, e.val = .int v t := by
  obtain ⟨eh, ek, ev⟩ := e
  unfold entOf at q
  cases hk : intOf ek with
  | none => simp [hk] at q
  | some i' =>
    cases hv : intOf ev with
    | none => simp [hk, hv] at q
    | some v' =>
      simp only [hk, hv, Option.bind_some, Option.map_some, Option.some.injEq, Prod.mk.injEq] at q
      obtain ⟨rfl, rfl, rfl⟩ := q
      exact ⟨rfl, intOf_is hk, intOf_is hv⟩
theorem ents_are {P : Program} {w : World} : ∀ {es : List DictEntry} {ts : List (Int × Int)}, es.map entOf = ts.map (fun p => some (hashInt p.1, p.1, p.2)) →
    (∀ e ∈ es, ∃ k, (mixKind P w).is k e.key = true ∧ e.hash = (mixKind P w).hash k) ∧ ∃ vs, KV (ts.map fun p : Int × Int => ((Sum.inl p.1 : Key), V.int p.2)) vs ∧ Pairs (mixKind P w) es vs ∧ vs.map (·.1) = ts.map fun p => Sum.inl p.1
  | [], [], _ => ⟨fun _ h => (nomatch h), [], .nil, .nil, rfl⟩
  | e :: es, (i, v) :: ts, h => by
    simp only [List.map_cons, List.cons.injEq] at h
    obtain ⟨h1, h2⟩ := h
    obtain ⟨a1, ⟨t, a2⟩, u, a3⟩ := entOf_is h1
    obtain ⟨b1, vs, b2, b3, b4⟩ := ents_are (P := P) (w := w) h2
    refine ⟨fun e' he => ?_, (Sum.inl i, .int v u) :: vs, .cons ⟨rfl, u, rfl⟩ b2, .cons (by rw [a2]; exact mixKind_int P w i t) a3 b3, ?_⟩
    · rcases List.mem_cons.mp he with rfl | he
      · exact ⟨Sum.inl i, by rw [a2]; exact mixKind_int P w i t, a1⟩
      · exact b1 e' he
    · simp only [List.map_cons, b4]
  | [], _ :: _, h => by cases h
  | _ :: _, [], h => by cases h
theorem din_of {P : Program} {w : World} {K : PySem.W.Frag} {a : Addr} {es : Array DictEntry} {n : Nat} {ts : List (Int × Int)} (l : K.lookup a = some ⟨.type "dict", none, .dict es n, #[]⟩)
    (c : es.toList.map entOf = ts.map (fun p => some (hashInt p.1, p.1, p.2))) (nd : (ts.map fun p => (Sum.inl p.1 : Key)).Nodup) : DIn P w K a (ts.map fun p : Int × Int => ((Sum.inl p.1 : Key), V.int p.2)) := fun h X => by
  obtain ⟨b1, vs, b2, b3, b4⟩ := ents_are (P := P) (w := w) c
  exact ⟨vs, b2, _, es, n, X _ _ l, ⟨rfl, rfl, rfl⟩, rfl, fun e he => b1 e (Array.mem_toList_iff.mpr he), b3, by rw [b4]; exact nd⟩
end Fd
end
section
namespace Fd
open PySem L2
noncomputable def kE (P : Params) (x : Str) (t : Nat) (v : Value) : DictEntry := ⟨PyData.keyHash P x, .str x t, v⟩
noncomputable def kD (x q : Str) (st : Stmt) (m : Value) (c : Nat) : FuncData := PySem.W.fnOf x q (defArgs st) (defBody st) (defScope st) .none .none .none m none (.ref c) .none
noncomputable def kF (d : FuncData) : Obj := ⟨.type "function", none, .func d, #[]⟩
noncomputable def kC (x q : Str) (t l n a u : Nat) (r : List Value) : Obj :=
  ⟨.type "code", none, .fields (([.str x t, .str q (t + 1), .str "/claim/cut.py" (t + 2), .int l 0, .int n 0, .int 0 0, .int 0 0, .int 3 0, .ref a, .bool true, .int 181 0, .ref (a + 1), .none] : List Value) ++ r ++ ([.int u 0, .int l 0, .str "/claim/cut.py" (u + 1)] : List Value)).toArray, #[]⟩
noncomputable def kA (x q : Str) (st : Stmt) (m : Value) (c t l n u : Nat) : List (Addr × Obj) := [(c, kC x q t l n (c - 5) u [.ref (c - 3), .ref (c - 2), .ref (c - 1)]), (c + 1, kF (kD x q st m c))]
noncomputable def kB (x q : Str) (st : Stmt) (m : Value) (c t l n u : Nat) : List (Addr × Obj) := [(c, kC x q t l n (c - 3) u [.none, .none, .ref (c - 1)]), (c + 1, kF (kD x q st m c))]
noncomputable def kO (P : Params) (x : Str) (n C i t1 t2 t3 t4 t5 t6 t7 t8 l tl s g : Nat) (m : Value) (z1 z2 : Nat) : List (Addr × Obj) :=
  [(n, ⟨.type "dict", none, .dict #[kE P "__module__" t1 m, kE P "__firstlineno__" t2 (.int l tl), kE P "__init__" t3 (.ref i), kE P "__static_attributes__" t4 (.ref s), kE P "__dict__" t5 (.ref g), kE P "__weakref__" t6 (.ref (g + 1)), kE P "__doc__" t7 .none] t8, #[]⟩),
   (C, ⟨.type "type", none, .cls ⟨x, [.type "object"], [.ref C, .type "object"], n, x, true, [], [], false, none, false⟩, #[none, none, some (.str x z1), some (.str x z2), some (.builtin "object.__new__"), some (.bool true)]⟩)]
noncomputable def kM0 : Value := .str "fairdoor.guest" 187
noncomputable def kM1 : Value := .str "fairdoor.rules" 331
noncomputable def kM2 : Value := .str "fairdoor.server" 441
noncomputable def kM3 : Value := .str "fairdoor.turns" 603
noncomputable def kM4 : Value := .str "fairdoor.acts" 715
noncomputable def kM5 : Value := .str "fairdoor.views" 859
noncomputable def kM6 : Value := .str "fairdoor.desk" 918
noncomputable def kG (P : Params) : Array DictEntry := #[kE P "__name__" 165 (.str "fairdoor.desk" 918), kE P "__doc__" 166 (.none), kE P "__package__" 167 (.none), kE P "__loader__" 168 (.builtin "__main__.__loader__#opaque"), kE P "__spec__" 169 (.none), kE P "__annotations__" 170 (.ref 6), kE P "__builtins__" 171 (.ref 4), kE P "__file__" 173 (.str "/claim/cut.py" 172), kE P "__cached__" 174 (.none), kE P "Request" 223 (.ref 31), kE P "Guest" 261 (.ref 52), kE P "is_quiet" 268 (.ref 63), kE P "find_request" 277 (.ref 70), kE P "without_request" 283 (.ref 75), kE P "late_requests" 289 (.ref 80), kE P "timely_requests" 295 (.ref 85), kE P "refill_chances" 306 (.ref 92), kE P "OUT_OF_RANGE" 309 (.int (-1) 308), kE P "NOBODY" 312 (.int (-2) 311), kE P "HAS_IT_ALREADY" 315 (.int (-3) 314), kE P "NO_RULES" 318 (.int (-4) 317), kE P "NOT_WORKED_AT" 321 (.int (-5) 320), kE P "FULL" 324 (.int (-6) 323), kE P "ADDRESS_FULL" 327 (.int (-7) 326), kE P "IS_ENDING" 330 (.int (-8) 329), kE P "LAST_TIME" 334 (.int 4611686018427387904 333), kE P "LONGEST_SPAN" 336 (.int 2147483648 335), kE P "NUMBERS_END" 338 (.int 4294967296 337), kE P "MOST_COST" 340 (.int 65535 339), kE P "MOST_BYTES" 342 (.int 65536 341), kE P "MOST_WEIGHT" 344 (.int 16 343), kE P "Rules" 387 (.ref 109), kE P "within" 396 (.ref 120), kE P "time_fits" 403 (.ref 127), kE P "rules_fit" 410 (.ref 134), kE P "address_fits" 417 (.ref 141), kE P "request_fits" 426 (.ref 148), kE P "weight_fits" 433 (.ref 155), kE P "grace_fits" 440 (.ref 162), kE P "TELL_TOO_MANY" 444 (.int 1 443), kE P "TELL_TOO_OFTEN" 446 (.int 2 445), kE P "TELL_ENDING" 448 (.int 3 447), kE P "TELL_TOO_LATE" 450 (.int 4 449), kE P "CLOSE_IDLE" 452 (.int 1 451), kE P "CLOSE_ENDING" 454 (.int 2 453), kE P "CLOSE_GRACE_OVER" 456 (.int 3 455), kE P "Server" 493 (.ref 179), kE P "set_anew" 502 (.ref 190), kE P "want_start" 511 (.ref 197), kE P "want_answer" 521 (.ref 204), kE P "want_tell" 531 (.ref 211), kE P "want_cancel" 540 (.ref 218), kE P "want_close" 549 (.ref 225), kE P "count_working" 555 (.ref 230), kE P "count_waiting" 561 (.ref 235), kE P "count_from" 567 (.ref 240), kE P "least_free_number" 575 (.ref 247), kE P "cancel_work" 584 (.ref 254), kE P "send_away" 592 (.ref 261), kE P "close_all_of" 602 (.ref 268), kE P "CREDIT_FOR_WEIGHT" 606 (.int 1000 605), kE P "go_on" 614 (.ref 275), kE P "end_what_is_due" 621 (.ref 282), kE P "settle" 628 (.ref 289), kE P "drop_late" 636 (.ref 296), kE P "drop_late_of" 649 (.ref 303), kE P "quiet_numbers" 655 (.ref 308), kE P "close_idle" 661 (.ref 313), kE P "is_grace_over" 668 (.ref 320), kE P "close_quiet_if_ending" 675 (.ref 327), kE P "close_all_if_grace_over" 684 (.ref 334), kE P "tidy_row" 694 (.ref 341), kE P "take_turns" 704 (.ref 348), kE P "start_first" 714 (.ref 355), kE P "ONE_CHANCE" 718 (.int 1000 717), kE P "begin" 727 (.ref 362), kE P "arrive" 737 (.ref 369), kE P "refuses" 746 (.ref 376), kE P "ask" 761 (.ref 383), kE P "why_not_taken" 771 (.ref 390), kE P "take" 781 (.ref 397), kE P "answer" 794 (.ref 404), kE P "drop" 807 (.ref 411), kE P "leave" 818 (.ref 418), kE P "hear" 829 (.ref 425), kE P "weigh" 841 (.ref 432), kE P "tick" 849 (.ref 439), kE P "stop" 858 (.ref 446), kE P "tell_due" 868 (.ref 453), kE P "due_times" 877 (.ref 460), kE P "late_times" 883 (.ref 465), kE P "idle_times" 891 (.ref 472), kE P "tell_counts" 901 (.ref 479), kE P "tell_guest" 911 (.ref 486), kE P "request_numbers" 917 (.ref 491), kE P "BEGIN" 921 (.int 1 920), kE P "ARRIVES" 923 (.int 2 922), kE P "ASKS" 925 (.int 3 924), kE P "ANSWERS" 927 (.int 4 926), kE P "DROPS" 929 (.int 5 928), kE P "LEAVES" 931 (.int 6 930), kE P "WEIGHT" 933 (.int 8 932), kE P "TICK" 935 (.int 9 934), kE P "STOP" 937 (.int 10 936), kE P "DUE" 939 (.int 11 938), kE P "TOLD" 941 (.int 12 940), kE P "LOOK" 943 (.int 13 942), kE P "NUMBERS_OF" 983 (.ref 492), kE P "answers" 998 (.ref 499), kE P "answer_call" 1010 (.ref 506), kE P "tell" 1020 (.ref 513), kE P "serve" 1030 (.ref 520), kE P "steer" 1039 (.ref 527), kE P "read_rules" 1046 (.ref 534)]
noncomputable def kNUMBERS_OF : Obj := ⟨.type "dict", none, .dict #[⟨1, .int 1 944, .int 9 945⟩, ⟨2, .int 2 946, .int 2 947⟩, ⟨3, .int 3 948, .int 4 949⟩, ⟨4, .int 4 950, .int 3 951⟩, ⟨5, .int 5 952, .int 3 953⟩, ⟨6, .int 6 954, .int 2 955⟩, ⟨7, .int 7 956, .int 2 957⟩, ⟨8, .int 8 958, .int 3 959⟩, ⟨9, .int 9 960, .int 1 961⟩, ⟨10, .int 10 962, .int 2 963⟩, ⟨11, .int 11 964, .int 0 965⟩, ⟨12, .int 12 966, .int 0 967⟩, ⟨13, .int 13 968, .int 1 969⟩] 13, #[]⟩
noncomputable def KK (P : Params) : PySem.W.Frag := (3, ⟨.type "dict", none, .dict (kG P) 114, #[]⟩) :: (492, kNUMBERS_OF) :: [kO P "Request" 30 31 28 196 200 211 216 218 220 221 4 2 199 29 32 kM0 189 197,
  kO P "Guest" 51 52 49 231 235 245 254 256 258 259 4 9 234 50 53 kM0 224 232,
  kO P "Rules" 108 109 106 352 356 371 380 382 384 385 4 52 355 107 110 kM1 345 353,
  kO P "Server" 178 179 176 464 468 475 486 488 490 491 4 85 467 177 180 kM2 457 465,
  kA "__init__" "Request.__init__" s_Request_init kM0 27 201 4 5 209,
  kA "__init__" "Guest.__init__" s_Guest_init kM0 48 236 11 4 243,
  kA "is_quiet" "is_quiet" s_is_quiet kM0 62 262 20 1 266,
  kA "find_request" "find_request" s_find_request kM0 69 269 22 2 275,
  kB "without_request" "without_request" s_without_request kM0 74 278 27 2 281,
  kB "late_requests" "late_requests" s_late_requests kM0 79 284 29 3 287,
  kB "timely_requests" "timely_requests" s_timely_requests kM0 84 290 31 3 293,
  kA "refill_chances" "refill_chances" s_refill_chances kM0 91 296 33 4 304,
  kA "__init__" "Rules.__init__" s_Rules_init kM1 105 357 54 9 369,
  kA "within" "within" s_within kM1 119 388 63 3 394,
  kA "time_fits" "time_fits" s_time_fits kM1 126 397 65 1 401,
  kA "rules_fit" "rules_fit" s_rules_fit kM1 133 404 67 1 408,
  kA "address_fits" "address_fits" s_address_fits kM1 140 411 69 1 415,
  kA "request_fits" "request_fits" s_request_fits kM1 147 418 71 3 424,
  kA "weight_fits" "weight_fits" s_weight_fits kM1 154 427 73 1 431,
  kA "grace_fits" "grace_fits" s_grace_fits kM1 161 434 75 1 438,
  kA "__init__" "Server.__init__" s_Server_init kM2 175 469 87 1 473,
  kA "set_anew" "set_anew" s_set_anew kM2 189 494 98 3 500,
  kA "want_start" "want_start" s_want_start kM2 196 503 108 3 509,
  kA "want_answer" "want_answer" s_want_answer kM2 203 512 110 4 519,
  kA "want_tell" "want_tell" s_want_tell kM2 210 522 113 4 529,
  kA "want_cancel" "want_cancel" s_want_cancel kM2 217 532 116 3 538,
  kA "want_close" "want_close" s_want_close kM2 224 541 118 3 547,
  kB "count_working" "count_working" s_count_working kM2 229 550 120 1 553,
  kB "count_waiting" "count_waiting" s_count_waiting kM2 234 556 122 1 559,
  kB "count_from" "count_from" s_count_from kM2 239 562 124 2 565,
  kA "least_free_number" "least_free_number" s_least_free_number kM2 246 568 126 1 573,
  kA "cancel_work" "cancel_work" s_cancel_work kM2 253 576 131 2 582,
  kA "send_away" "send_away" s_send_away kM2 260 585 134 2 590,
  kA "close_all_of" "close_all_of" s_close_all_of kM2 267 593 138 3 600,
  kA "go_on" "go_on" s_go_on kM3 274 607 144 2 612,
  kA "end_what_is_due" "end_what_is_due" s_end_what_is_due kM3 281 615 151 1 619,
  kA "settle" "settle" s_settle kM3 288 622 156 1 626,
  kA "drop_late" "drop_late" s_drop_late kM3 295 629 160 1 634,
  kA "drop_late_of" "drop_late_of" s_drop_late_of kM3 302 637 165 2 647,
  kB "quiet_numbers" "quiet_numbers" s_quiet_numbers kM3 307 650 179 1 653,
  kB "close_idle" "close_idle" s_close_idle kM3 312 656 181 1 659,
  kA "is_grace_over" "is_grace_over" s_is_grace_over kM3 319 662 188 1 666,
  kA "close_quiet_if_ending" "close_quiet_if_ending" s_close_quiet_if_ending kM3 326 669 190 1 673,
  kA "close_all_if_grace_over" "close_all_if_grace_over" s_close_all_if_grace_over kM3 333 676 193 1 682,
  kA "tidy_row" "tidy_row" s_tidy_row kM3 340 685 200 1 692,
  kA "take_turns" "take_turns" s_take_turns kM3 347 695 209 1 702,
  kA "start_first" "start_first" s_start_first kM3 354 705 220 2 712,
  kA "begin" "begin" s_begin kM4 361 719 232 3 725,
  kA "arrive" "arrive" s_arrive kM4 368 728 237 3 735,
  kA "refuses" "refuses" s_refuses kM4 375 738 252 3 744,
  kA "ask" "ask" s_ask kM4 382 747 259 6 759,
  kA "why_not_taken" "why_not_taken" s_why_not_taken kM4 389 762 276 2 769,
  kA "take" "take" s_take kM4 396 772 288 3 779,
  kA "answer" "answer" s_answer kM4 403 782 296 5 792,
  kA "drop" "drop" s_drop kM4 410 795 308 4 805,
  kA "leave" "leave" s_leave kM4 417 808 323 3 816,
  kA "hear" "hear" s_hear kM4 424 819 332 3 827,
  kA "weigh" "weigh" s_weigh kM4 431 830 340 4 839,
  kA "tick" "tick" s_tick kM4 438 842 350 2 847,
  kA "stop" "stop" s_stop kM4 445 850 355 3 856,
  kA "tell_due" "tell_due" s_tell_due kM5 452 861 368 1 866,
  kA "due_times" "due_times" s_due_times kM5 459 869 373 1 875,
  kB "late_times" "late_times" s_late_times kM5 464 878 381 2 881,
  kA "idle_times" "idle_times" s_idle_times kM5 471 884 385 2 889,
  kA "tell_counts" "tell_counts" s_tell_counts kM5 478 892 389 1 899,
  kA "tell_guest" "tell_guest" s_tell_guest kM5 485 902 394 2 909,
  kB "request_numbers" "request_numbers" s_request_numbers kM5 490 912 400 1 915,
  kA "answers" "answers" s_answers kM6 498 984 416 1 996,
  kA "answer_call" "answer_call" s_answer_call kM6 505 999 433 4 1008,
  kA "tell" "tell" s_tell kM6 512 1011 440 4 1018,
  kA "serve" "serve" s_serve kM6 519 1021 450 4 1028,
  kA "steer" "steer" s_steer kM6 526 1031 464 3 1037,
  kA "read_rules" "read_rules" s_read_rules kM6 533 1040 470 1 1044].flatten
noncomputable def kk : List Addr := [3, 492, 30, 31, 51, 52, 108, 109, 178, 179, 27, 28, 48, 49, 62, 63, 69, 70, 74, 75, 79, 80, 84, 85, 91, 92, 105, 106, 119, 120, 126, 127, 133, 134, 140, 141, 147, 148, 154, 155, 161, 162, 175, 176, 189, 190, 196, 197, 203, 204, 210, 211, 217, 218, 224, 225, 229, 230, 234, 235, 239, 240, 246, 247, 253, 254, 260, 261, 267, 268, 274, 275, 281, 282, 288, 289, 295, 296, 302, 303, 307, 308, 312, 313, 319, 320, 326, 327, 333, 334, 340, 341, 347, 348, 354, 355, 361, 362, 368, 369, 375, 376, 382, 383, 389, 390, 396, 397, 403, 404, 410, 411, 417, 418, 424, 425, 431, 432, 438, 439, 445, 446, 452, 453, 459, 460, 464, 465, 471, 472, 478, 479, 485, 486, 490, 491, 498, 499, 505, 506, 512, 513, 519, 520, 526, 527, 533, 534]
theorem kk_is (P : Params) : kk = (KK P).map (·.1) := by kernel_rfl
noncomputable def t0 : Adr := ⟨31, 52, 109, 179, 28, kD "__init__" "Request.__init__" s_Request_init kM0 27, 49, kD "__init__" "Guest.__init__" s_Guest_init kM0 48, 63, kD "is_quiet" "is_quiet" s_is_quiet kM0 62, 70, kD "find_request" "find_request" s_find_request kM0 69, 75, kD "without_request" "without_request" s_without_request kM0 74, 80, kD "late_requests" "late_requests" s_late_requests kM0 79, 85, kD "timely_requests" "timely_requests" s_timely_requests kM0 84, 92, kD "refill_chances" "refill_chances" s_refill_chances kM0 91, 106, kD "__init__" "Rules.__init__" s_Rules_init kM1 105, 120, kD "within" "within" s_within kM1 119, 127, kD "time_fits" "time_fits" s_time_fits kM1 126, 134, kD "rules_fit" "rules_fit" s_rules_fit kM1 133, 141, kD "address_fits" "address_fits" s_address_fits kM1 140, 148, kD "request_fits" "request_fits" s_request_fits kM1 147, 155, kD "weight_fits" "weight_fits" s_weight_fits kM1 154, 162, kD "grace_fits" "grace_fits" s_grace_fits kM1 161, 176, kD "__init__" "Server.__init__" s_Server_init kM2 175, 190, kD "set_anew" "set_anew" s_set_anew kM2 189, 197, kD "want_start" "want_start" s_want_start kM2 196, 204, kD "want_answer" "want_answer" s_want_answer kM2 203, 211, kD "want_tell" "want_tell" s_want_tell kM2 210, 218, kD "want_cancel" "want_cancel" s_want_cancel kM2 217, 225, kD "want_close" "want_close" s_want_close kM2 224, 230, kD "count_working" "count_working" s_count_working kM2 229, 235, kD "count_waiting" "count_waiting" s_count_waiting kM2 234, 240, kD "count_from" "count_from" s_count_from kM2 239, 247, kD "least_free_number" "least_free_number" s_least_free_number kM2 246, 254, kD "cancel_work" "cancel_work" s_cancel_work kM2 253, 261, kD "send_away" "send_away" s_send_away kM2 260, 268, kD "close_all_of" "close_all_of" s_close_all_of kM2 267, 275, kD "go_on" "go_on" s_go_on kM3 274, 282, kD "end_what_is_due" "end_what_is_due" s_end_what_is_due kM3 281, 289, kD "settle" "settle" s_settle kM3 288, 296, kD "drop_late" "drop_late" s_drop_late kM3 295, 303, kD "drop_late_of" "drop_late_of" s_drop_late_of kM3 302, 308, kD "quiet_numbers" "quiet_numbers" s_quiet_numbers kM3 307, 313, kD "close_idle" "close_idle" s_close_idle kM3 312, 320, kD "is_grace_over" "is_grace_over" s_is_grace_over kM3 319, 327, kD "close_quiet_if_ending" "close_quiet_if_ending" s_close_quiet_if_ending kM3 326, 334, kD "close_all_if_grace_over" "close_all_if_grace_over" s_close_all_if_grace_over kM3 333, 341, kD "tidy_row" "tidy_row" s_tidy_row kM3 340, 348, kD "take_turns" "take_turns" s_take_turns kM3 347, 355, kD "start_first" "start_first" s_start_first kM3 354, 362, kD "begin" "begin" s_begin kM4 361, 369, kD "arrive" "arrive" s_arrive kM4 368, 376, kD "refuses" "refuses" s_refuses kM4 375, 383, kD "ask" "ask" s_ask kM4 382, 390, kD "why_not_taken" "why_not_taken" s_why_not_taken kM4 389, 397, kD "take" "take" s_take kM4 396, 404, kD "answer" "answer" s_answer kM4 403, 411, kD "drop" "drop" s_drop kM4 410, 418, kD "leave" "leave" s_leave kM4 417, 425, kD "hear" "hear" s_hear kM4 424, 432, kD "weigh" "weigh" s_weigh kM4 431, 439, kD "tick" "tick" s_tick kM4 438, 446, kD "stop" "stop" s_stop kM4 445, 453, kD "tell_due" "tell_due" s_tell_due kM5 452, 460, kD "due_times" "due_times" s_due_times kM5 459, 465, kD "late_times" "late_times" s_late_times kM5 464, 472, kD "idle_times" "idle_times" s_idle_times kM5 471, 479, kD "tell_counts" "tell_counts" s_tell_counts kM5 478, 486, kD "tell_guest" "tell_guest" s_tell_guest kM5 485, 491, kD "request_numbers" "request_numbers" s_request_numbers kM5 490, 499, kD "answers" "answers" s_answers kM6 498, 506, kD "answer_call" "answer_call" s_answer_call kM6 505, 513, kD "tell" "tell" s_tell kM6 512, 520, kD "serve" "serve" s_serve kM6 519, 527, kD "steer" "steer" s_steer kM6 526, 534, kD "read_rules" "read_rules" s_read_rules kM6 533, 308, 311, 314, 317, 320, 323, 326, 329, 333, 335, 337, 339, 341, 343, 443, 445, 447, 449, 451, 453, 455, 605, 717, 920, 922, 924, 926, 928, 930, 932, 934, 936, 938, 940, 942, 492⟩
theorem kfun {K : PySem.W.Frag} {x q : Str} {st : Stmt} {m : Value} {c f : Nat} (lc : PySem.W.codeIn K (.ref c) q = true) (l : K.lookup f = some (kF (kD x q st m c))) : Fun K x q st f (kD x q st m c) :=
  fun_mk l lc (by unfold PySem.W.keepIn; dsimp only; rw [l]; rfl)
theorem kno {K : PySem.W.Frag} {C : Addr} {f : Str} (h : PySem.W.findIn K (.ref C) f = some none) : NoAttr K C f := h
theorem kb1 {K : PySem.W.Frag} {fd : FuncData} {ps : List Str} (hp : ps.length = 1) (h : ∀ x0 : Value, bindArgs fd ⟨[x0], []⟩ = pure (ps.zip [x0])) : Binds K fd ps [] := .all fun us hl => match us, hl.trans hp with | [x0], _ => h x0
theorem kb2 {K : PySem.W.Frag} {fd : FuncData} {ps : List Str} (hp : ps.length = 2) (h : ∀ x0 x1 : Value, bindArgs fd ⟨[x0, x1], []⟩ = pure (ps.zip [x0, x1])) : Binds K fd ps [] := .all fun us hl => match us, hl.trans hp with | [x0, x1], _ => h x0 x1
theorem kb3 {K : PySem.W.Frag} {fd : FuncData} {ps : List Str} (hp : ps.length = 3) (h : ∀ x0 x1 x2 : Value, bindArgs fd ⟨[x0, x1, x2], []⟩ = pure (ps.zip [x0, x1, x2])) : Binds K fd ps [] := .all fun us hl => match us, hl.trans hp with | [x0, x1, x2], _ => h x0 x1 x2
theorem kb4 {K : PySem.W.Frag} {fd : FuncData} {ps : List Str} (hp : ps.length = 4) (h : ∀ x0 x1 x2 x3 : Value, bindArgs fd ⟨[x0, x1, x2, x3], []⟩ = pure (ps.zip [x0, x1, x2, x3])) : Binds K fd ps [] := .all fun us hl => match us, hl.trans hp with | [x0, x1, x2, x3], _ => h x0 x1 x2 x3
theorem kb5 {K : PySem.W.Frag} {fd : FuncData} {ps : List Str} (hp : ps.length = 5) (h : ∀ x0 x1 x2 x3 x4 : Value, bindArgs fd ⟨[x0, x1, x2, x3, x4], []⟩ = pure (ps.zip [x0, x1, x2, x3, x4])) : Binds K fd ps [] := .all fun us hl => match us, hl.trans hp with | [x0, x1, x2, x3, x4], _ => h x0 x1 x2 x3 x4
theorem kb6 {K : PySem.W.Frag} {fd : FuncData} {ps : List Str} (hp : ps.length = 6) (h : ∀ x0 x1 x2 x3 x4 x5 : Value, bindArgs fd ⟨[x0, x1, x2, x3, x4, x5], []⟩ = pure (ps.zip [x0, x1, x2, x3, x4, x5])) : Binds K fd ps [] := .all fun us hl => match us, hl.trans hp with | [x0, x1, x2, x3, x4, x5], _ => h x0 x1 x2 x3 x4 x5
theorem kb9 {K : PySem.W.Frag} {fd : FuncData} {ps : List Str} (hp : ps.length = 9) (h : ∀ x0 x1 x2 x3 x4 x5 x6 x7 x8 : Value, bindArgs fd ⟨[x0, x1, x2, x3, x4, x5, x6, x7, x8], []⟩ = pure (ps.zip [x0, x1, x2, x3, x4, x5, x6, x7, x8])) : Binds K fd ps [] := .all fun us hl => match us, hl.trans hp with | [x0, x1, x2, x3, x4, x5, x6, x7, x8], _ => h x0 x1 x2 x3 x4 x5 x6 x7 x8
theorem txt0 {P : Params} {h : Heap} {mg : Str → Option Value} (X : (KK P).In h) (G : h.Ns mainGlobals mg) : Txt (KK P) mg t0 :=
  ⟨⟨by kernel_rfl, by kernel_rfl, by kernel_rfl, by kernel_rfl⟩,
  kno (by kernel_rfl),
  kno (by kernel_rfl),
  kno (by kernel_rfl),
  kno (by kernel_rfl),
  PySem.W.mg_of X G (by kernel_rfl),
  ⟨by kernel_rfl, by kernel_rfl, by kernel_rfl, by kernel_rfl⟩,
  ⟨by kernel_rfl, by kernel_rfl, by kernel_rfl, by kernel_rfl⟩,
  kno (by kernel_rfl),
  kno (by kernel_rfl),
  kno (by kernel_rfl),
  kno (by kernel_rfl),
  kno (by kernel_rfl),
  kno (by kernel_rfl),
  kno (by kernel_rfl),
  kno (by kernel_rfl),
  PySem.W.mg_of X G (by kernel_rfl),
  ⟨by kernel_rfl, by kernel_rfl, by kernel_rfl, by kernel_rfl⟩,
  ⟨by kernel_rfl, by kernel_rfl, by kernel_rfl, by kernel_rfl⟩,
  kno (by kernel_rfl),
  kno (by kernel_rfl),
  kno (by kernel_rfl),
  kno (by kernel_rfl),
  kno (by kernel_rfl),
  kno (by kernel_rfl),
  kno (by kernel_rfl),
  kno (by kernel_rfl),
  PySem.W.mg_of X G (by kernel_rfl),
  ⟨by kernel_rfl, by kernel_rfl, by kernel_rfl, by kernel_rfl⟩,
  ⟨by kernel_rfl, by kernel_rfl, by kernel_rfl, by kernel_rfl⟩,
  kno (by kernel_rfl),
  kno (by kernel_rfl),
  kno (by kernel_rfl),
  kno (by kernel_rfl),
  kno (by kernel_rfl),
  kno (by kernel_rfl),
  kno (by kernel_rfl),
  kno (by kernel_rfl),
  kno (by kernel_rfl),
  kno (by kernel_rfl),
  PySem.W.mg_of X G (by kernel_rfl),
  ⟨by kernel_rfl, by kernel_rfl, by kernel_rfl, by kernel_rfl⟩,
  kfun (by kernel_rfl) (by kernel_rfl),
  kb5 rfl fun _ _ _ _ _ => rfl,
  kfun (by kernel_rfl) (by kernel_rfl),
  kb4 rfl fun _ _ _ _ => rfl,
  kfun (by kernel_rfl) (by kernel_rfl),
  kb1 rfl fun _ => rfl,
  PySem.W.mg_of X G (by kernel_rfl),
  kfun (by kernel_rfl) (by kernel_rfl),
  kb2 rfl fun _ _ => rfl,
  PySem.W.mg_of X G (by kernel_rfl),
  kfun (by kernel_rfl) (by kernel_rfl),
  kb2 rfl fun _ _ => rfl,
  PySem.W.mg_of X G (by kernel_rfl),
  kfun (by kernel_rfl) (by kernel_rfl),
  kb3 rfl fun _ _ _ => rfl,
  PySem.W.mg_of X G (by kernel_rfl),
  kfun (by kernel_rfl) (by kernel_rfl),
  kb3 rfl fun _ _ _ => rfl,
  PySem.W.mg_of X G (by kernel_rfl),
  kfun (by kernel_rfl) (by kernel_rfl),
  kb4 rfl fun _ _ _ _ => rfl,
  PySem.W.mg_of X G (by kernel_rfl),
  kfun (by kernel_rfl) (by kernel_rfl),
  kb9 rfl fun _ _ _ _ _ _ _ _ _ => rfl,
  kfun (by kernel_rfl) (by kernel_rfl),
  kb3 rfl fun _ _ _ => rfl,
  PySem.W.mg_of X G (by kernel_rfl),
  kfun (by kernel_rfl) (by kernel_rfl),
  kb1 rfl fun _ => rfl,
  PySem.W.mg_of X G (by kernel_rfl),
  kfun (by kernel_rfl) (by kernel_rfl),
  kb1 rfl fun _ => rfl,
  PySem.W.mg_of X G (by kernel_rfl),
  kfun (by kernel_rfl) (by kernel_rfl),
  kb1 rfl fun _ => rfl,
  PySem.W.mg_of X G (by kernel_rfl),
  kfun (by kernel_rfl) (by kernel_rfl),
  kb3 rfl fun _ _ _ => rfl,
  PySem.W.mg_of X G (by kernel_rfl),
  kfun (by kernel_rfl) (by kernel_rfl),
  kb1 rfl fun _ => rfl,
  PySem.W.mg_of X G (by kernel_rfl),
  kfun (by kernel_rfl) (by kernel_rfl),
  kb1 rfl fun _ => rfl,
  PySem.W.mg_of X G (by kernel_rfl),
  kfun (by kernel_rfl) (by kernel_rfl),
  kb1 rfl fun _ => rfl,
  kfun (by kernel_rfl) (by kernel_rfl),
  kb3 rfl fun _ _ _ => rfl,
  PySem.W.mg_of X G (by kernel_rfl),
  kfun (by kernel_rfl) (by kernel_rfl),
  kb3 rfl fun _ _ _ => rfl,
  PySem.W.mg_of X G (by kernel_rfl),
  kfun (by kernel_rfl) (by kernel_rfl),
  kb4 rfl fun _ _ _ _ => rfl,
  PySem.W.mg_of X G (by kernel_rfl),
  kfun (by kernel_rfl) (by kernel_rfl),
  kb4 rfl fun _ _ _ _ => rfl,
  PySem.W.mg_of X G (by kernel_rfl),
  kfun (by kernel_rfl) (by kernel_rfl),
  kb3 rfl fun _ _ _ => rfl,
  PySem.W.mg_of X G (by kernel_rfl),
  kfun (by kernel_rfl) (by kernel_rfl),
  kb3 rfl fun _ _ _ => rfl,
  PySem.W.mg_of X G (by kernel_rfl),
  kfun (by kernel_rfl) (by kernel_rfl),
  kb1 rfl fun _ => rfl,
  PySem.W.mg_of X G (by kernel_rfl),
  kfun (by kernel_rfl) (by kernel_rfl),
  kb1 rfl fun _ => rfl,
  PySem.W.mg_of X G (by kernel_rfl),
  kfun (by kernel_rfl) (by kernel_rfl),
  kb2 rfl fun _ _ => rfl,
  PySem.W.mg_of X G (by kernel_rfl),
  kfun (by kernel_rfl) (by kernel_rfl),
  kb1 rfl fun _ => rfl,
  PySem.W.mg_of X G (by kernel_rfl),
  kfun (by kernel_rfl) (by kernel_rfl),
  kb2 rfl fun _ _ => rfl,
  PySem.W.mg_of X G (by kernel_rfl),
  kfun (by kernel_rfl) (by kernel_rfl),
  kb2 rfl fun _ _ => rfl,
  PySem.W.mg_of X G (by kernel_rfl),
  kfun (by kernel_rfl) (by kernel_rfl),
  kb3 rfl fun _ _ _ => rfl,
  PySem.W.mg_of X G (by kernel_rfl),
  kfun (by kernel_rfl) (by kernel_rfl),
  kb2 rfl fun _ _ => rfl,
  PySem.W.mg_of X G (by kernel_rfl),
  kfun (by kernel_rfl) (by kernel_rfl),
  kb1 rfl fun _ => rfl,
  PySem.W.mg_of X G (by kernel_rfl),
  kfun (by kernel_rfl) (by kernel_rfl),
  kb1 rfl fun _ => rfl,
  PySem.W.mg_of X G (by kernel_rfl),
  kfun (by kernel_rfl) (by kernel_rfl),
  kb1 rfl fun _ => rfl,
  PySem.W.mg_of X G (by kernel_rfl),
  kfun (by kernel_rfl) (by kernel_rfl),
  kb2 rfl fun _ _ => rfl,
  PySem.W.mg_of X G (by kernel_rfl),
  kfun (by kernel_rfl) (by kernel_rfl),
  kb1 rfl fun _ => rfl,
  PySem.W.mg_of X G (by kernel_rfl),
  kfun (by kernel_rfl) (by kernel_rfl),
  kb1 rfl fun _ => rfl,
  PySem.W.mg_of X G (by kernel_rfl),
  kfun (by kernel_rfl) (by kernel_rfl),
  kb1 rfl fun _ => rfl,
  PySem.W.mg_of X G (by kernel_rfl),
  kfun (by kernel_rfl) (by kernel_rfl),
  kb1 rfl fun _ => rfl,
  PySem.W.mg_of X G (by kernel_rfl),
  kfun (by kernel_rfl) (by kernel_rfl),
  kb1 rfl fun _ => rfl,
  PySem.W.mg_of X G (by kernel_rfl),
  kfun (by kernel_rfl) (by kernel_rfl),
  kb1 rfl fun _ => rfl,
  PySem.W.mg_of X G (by kernel_rfl),
  kfun (by kernel_rfl) (by kernel_rfl),
  kb1 rfl fun _ => rfl,
  PySem.W.mg_of X G (by kernel_rfl),
  kfun (by kernel_rfl) (by kernel_rfl),
  kb2 rfl fun _ _ => rfl,
  PySem.W.mg_of X G (by kernel_rfl),
  kfun (by kernel_rfl) (by kernel_rfl),
  kb3 rfl fun _ _ _ => rfl,
  PySem.W.mg_of X G (by kernel_rfl),
  kfun (by kernel_rfl) (by kernel_rfl),
  kb3 rfl fun _ _ _ => rfl,
  PySem.W.mg_of X G (by kernel_rfl),
  kfun (by kernel_rfl) (by kernel_rfl),
  kb3 rfl fun _ _ _ => rfl,
  PySem.W.mg_of X G (by kernel_rfl),
  kfun (by kernel_rfl) (by kernel_rfl),
  kb6 rfl fun _ _ _ _ _ _ => rfl,
  PySem.W.mg_of X G (by kernel_rfl),
  kfun (by kernel_rfl) (by kernel_rfl),
  kb2 rfl fun _ _ => rfl,
  PySem.W.mg_of X G (by kernel_rfl),
  kfun (by kernel_rfl) (by kernel_rfl),
  kb3 rfl fun _ _ _ => rfl,
  PySem.W.mg_of X G (by kernel_rfl),
  kfun (by kernel_rfl) (by kernel_rfl),
  kb5 rfl fun _ _ _ _ _ => rfl,
  PySem.W.mg_of X G (by kernel_rfl),
  kfun (by kernel_rfl) (by kernel_rfl),
  kb4 rfl fun _ _ _ _ => rfl,
  PySem.W.mg_of X G (by kernel_rfl),
  kfun (by kernel_rfl) (by kernel_rfl),
  kb3 rfl fun _ _ _ => rfl,
  PySem.W.mg_of X G (by kernel_rfl),
  kfun (by kernel_rfl) (by kernel_rfl),
  kb3 rfl fun _ _ _ => rfl,
  PySem.W.mg_of X G (by kernel_rfl),
  kfun (by kernel_rfl) (by kernel_rfl),
  kb4 rfl fun _ _ _ _ => rfl,
  PySem.W.mg_of X G (by kernel_rfl),
  kfun (by kernel_rfl) (by kernel_rfl),
  kb2 rfl fun _ _ => rfl,
  PySem.W.mg_of X G (by kernel_rfl),
  kfun (by kernel_rfl) (by kernel_rfl),
  kb3 rfl fun _ _ _ => rfl,
  PySem.W.mg_of X G (by kernel_rfl),
  kfun (by kernel_rfl) (by kernel_rfl),
  kb1 rfl fun _ => rfl,
  PySem.W.mg_of X G (by kernel_rfl),
  kfun (by kernel_rfl) (by kernel_rfl),
  kb1 rfl fun _ => rfl,
  PySem.W.mg_of X G (by kernel_rfl),
  kfun (by kernel_rfl) (by kernel_rfl),
  kb2 rfl fun _ _ => rfl,
  PySem.W.mg_of X G (by kernel_rfl),
  kfun (by kernel_rfl) (by kernel_rfl),
  kb2 rfl fun _ _ => rfl,
  PySem.W.mg_of X G (by kernel_rfl),
  kfun (by kernel_rfl) (by kernel_rfl),
  kb1 rfl fun _ => rfl,
  PySem.W.mg_of X G (by kernel_rfl),
  kfun (by kernel_rfl) (by kernel_rfl),
  kb2 rfl fun _ _ => rfl,
  PySem.W.mg_of X G (by kernel_rfl),
  kfun (by kernel_rfl) (by kernel_rfl),
  kb1 rfl fun _ => rfl,
  PySem.W.mg_of X G (by kernel_rfl),
  kfun (by kernel_rfl) (by kernel_rfl),
  kb1 rfl fun _ => rfl,
  PySem.W.mg_of X G (by kernel_rfl),
  kfun (by kernel_rfl) (by kernel_rfl),
  kb4 rfl fun _ _ _ _ => rfl,
  PySem.W.mg_of X G (by kernel_rfl),
  kfun (by kernel_rfl) (by kernel_rfl),
  kb4 rfl fun _ _ _ _ => rfl,
  PySem.W.mg_of X G (by kernel_rfl),
  kfun (by kernel_rfl) (by kernel_rfl),
  kb4 rfl fun _ _ _ _ => rfl,
  PySem.W.mg_of X G (by kernel_rfl),
  kfun (by kernel_rfl) (by kernel_rfl),
  kb3 rfl fun _ _ _ => rfl,
  PySem.W.mg_of X G (by kernel_rfl),
  kfun (by kernel_rfl) (by kernel_rfl),
  kb1 rfl fun _ => rfl,
  PySem.W.mg_of X G (by kernel_rfl),
  PySem.W.mg_of X G (by kernel_rfl),
  PySem.W.mg_of X G (by kernel_rfl),
  PySem.W.mg_of X G (by kernel_rfl),
  PySem.W.mg_of X G (by kernel_rfl),
  PySem.W.mg_of X G (by kernel_rfl),
  PySem.W.mg_of X G (by kernel_rfl),
  PySem.W.mg_of X G (by kernel_rfl),
  PySem.W.mg_of X G (by kernel_rfl),
  PySem.W.mg_of X G (by kernel_rfl),
  PySem.W.mg_of X G (by kernel_rfl),
  PySem.W.mg_of X G (by kernel_rfl),
  PySem.W.mg_of X G (by kernel_rfl),
  PySem.W.mg_of X G (by kernel_rfl),
  PySem.W.mg_of X G (by kernel_rfl),
  PySem.W.mg_of X G (by kernel_rfl),
  PySem.W.mg_of X G (by kernel_rfl),
  PySem.W.mg_of X G (by kernel_rfl),
  PySem.W.mg_of X G (by kernel_rfl),
  PySem.W.mg_of X G (by kernel_rfl),
  PySem.W.mg_of X G (by kernel_rfl),
  PySem.W.mg_of X G (by kernel_rfl),
  PySem.W.mg_of X G (by kernel_rfl),
  PySem.W.mg_of X G (by kernel_rfl),
  PySem.W.mg_of X G (by kernel_rfl),
  PySem.W.mg_of X G (by kernel_rfl),
  PySem.W.mg_of X G (by kernel_rfl),
  PySem.W.mg_of X G (by kernel_rfl),
  PySem.W.mg_of X G (by kernel_rfl),
  PySem.W.mg_of X G (by kernel_rfl),
  PySem.W.mg_of X G (by kernel_rfl),
  PySem.W.mg_of X G (by kernel_rfl),
  PySem.W.mg_of X G (by kernel_rfl),
  PySem.W.mg_of X G (by kernel_rfl),
  PySem.W.mg_of X G (by kernel_rfl),
  PySem.W.mg_of X G (by kernel_rfl),
  PySem.W.mg_of X G (by kernel_rfl),
  PySem.W.mg_none_of X G (by kernel_rfl),
  PySem.W.mg_none_of X G (by kernel_rfl),
  PySem.W.mg_none_of X G (by kernel_rfl),
  PySem.W.mg_none_of X G (by kernel_rfl),
  PySem.W.mg_none_of X G (by kernel_rfl)⟩
theorem din0 (P : Params) (Q : Program) (w : World) : DIn Q w (KK P) t0.gNUMBERS_OF numsOf := din_of (es := #[⟨1, .int 1 944, .int 9 945⟩, ⟨2, .int 2 946, .int 2 947⟩, ⟨3, .int 3 948, .int 4 949⟩, ⟨4, .int 4 950, .int 3 951⟩, ⟨5, .int 5 952, .int 3 953⟩, ⟨6, .int 6 954, .int 2 955⟩, ⟨7, .int 7 956, .int 2 957⟩, ⟨8, .int 8 958, .int 3 959⟩, ⟨9, .int 9 960, .int 1 961⟩, ⟨10, .int 10 962, .int 2 963⟩, ⟨11, .int 11 964, .int 0 965⟩, ⟨12, .int 12 966, .int 0 967⟩, ⟨13, .int 13 968, .int 1 969⟩]) (n := 13) (by kernel_rfl) (by kernel_rfl) (by decide)
end Fd
end
section
namespace Fd
open PySem L2
theorem fin {K : PySem.W.Frag} {mg : Str → Option Value} {fa : Addr} {P : Program} {w : World} (hmg : mg "answers" = some (.ref fa)) (hT : ∃ t : Adr, Txt K mg t ∧ ∀ (P : Program) (w : World), DIn P w K t.gNUMBERS_OF numsOf) :
    ∃ fd : FuncData, (∀ (s : Shared) (u : Value), BindsTo s fd ⟨[u], []⟩ [("calls", u)]) ∧ ∀ base : Heap, K.In base → base.Ns mainGlobals mg → FnOk P w K mg base CX0 11 fa fd ["calls"] (sp_answers K) := by
  obtain ⟨t, T, hD⟩ := hT
  have e : some (Value.ref fa) = some (Value.ref t.fanswers) := hmg.symm.trans T.manswers
  obtain rfl : fa = t.fanswers := Value.ref.inj (Option.some.inj e)
  obtain ⟨oc, od, kV, doc, pm, an, cdv, ct, osl, e2, lk, hcd⟩ := T.Fanswers.ex
  exact ⟨t.danswers, fun s u => by rw [e2]; exact .of_eq rfl, fun base _ _ => ok_answers T (hD P w)⟩
theorem said : PySem.Challenge.rw_fairdoor_s01_answers.wellSaid = true := by decide +kernel
theorem fin_walk {q : Program} {loose : List Str} {XP : (Str → Option Value) → Heap → Prop} {YP : World → Heap → Prop} {d : DefRec} {K : Params → PySem.W.Frag} (hdf : d.params.defaults = []) (hn : d.name = "answers")
    (hY : ∀ (w : World) (h : Heap), YP w h → (K w.params).In h)
    (hT : ∀ (w : World) (mg : Str → Option Value) (h : Heap), (K w.params).In h → h.Ns mainGlobals mg → ∃ t : Adr, Txt (K w.params) mg t ∧ ∀ (P : Program) (w' : World), DIn P w' (K w.params) t.gNUMBERS_OF numsOf) :
    PySem.W.WalkOS q loose XP YP PySem.Challenge.rw_fairdoor_s01_answers d [] (fun f vs => PySem.call f vs) :=
  walk_spec (prog := PySem.Challenge.pw_fairdoor_s01_answers) (k := 11) (x := "calls") (sp := sp_answers) said (by decide) hdf ⟨rfl, by decide, by decide⟩ hY
    (fun w mg fa h X G hmg => fin (by rw [← hn]; exact hmg) (hT w mg h X G))
    (fun K H a ns hlen _ hask _ hS => ⟨a, ns, rfl, hS, hlen, hask, fun l H' h => ⟨l, rfl, h⟩⟩)
theorem fin_all {q : Program} {loose : List Str} {XP : (Str → Option Value) → Heap → Prop} {d : DefRec} (hdf : d.params.defaults = []) (hn : d.name = "answers") :
    PySem.W.WalkOS q loose XP (PySem.W.Hook.says (PySem.W.kHook KK kk kk_is)) PySem.Challenge.rw_fairdoor_s01_answers d [] (fun f vs => PySem.call f vs) :=
  fin_walk (K := KK) hdf hn (fun _ _ Y => PySem.W.kIn_of Y) fun _ _ _ X G => ⟨t0, txt0 X G, fun P w' => din0 _ P w'⟩
end Fd
end
namespace PySem.W.Fast
def tw12930241624762030446 := 0
def tw5580891412995332029 := 0
def tw6168854049031377969 := 0
def tw10472250886915533980 := 0
def tw17913417549573550886 := 0
def tw3636044526814274202 := 0
def tw11567370682681567394 := 0
def tw13916291351190872670 := 0
def tw16663911660568225494 := 0
def tw3329846744132312516 := 0
def tw13648611127921609815 := 0
def tw6197308388464453270 := 0
def tw4450795507844548029 := 0
def tw3284977617816311703 := 0
def tw10624004083546604185 := 0
def tw3944627474797506438 := 0
def tw10777524553622484235 := 0
def tw13587736284067930186 := 0
def tw17443294443810292992 := 0
def tw5096715372976703770 := 0
def tw3107060484646564875 := 0
def tw8828720710666497331 := 0
def tw11022086846300076065 := 0
def tw8844910791143516216 := 0
def tw14585198772022383100 := 0
def tw14309343699069737137 := 0
def tw15576334740792120852 := 0
def tw10828464136080869237 := 0
def tw1108728538057162568 := 0
def tw10874572915379946448 := 0
def tw1242826635447858072 := 0
def tw2518523729529902306 := 0
def tw12811819433571138563 := 0
def tw7190911964615323860 := 0
def tw3451298822793360850 := 0
def tw2439902457780313600 := 0
def tw10083145155674564939 := 0
def tw6118427798362857564 := 0
def tw9882175217143487861 := 0
def tw15831577325323692748 := 0
def tw4663259367615025144 := 0
def tw2236858680469606085 := 0
def tw2369327776427226365 := 0
def tw12469472677700713937 := 0
def tw5192164666323751036 := 0
def tw16334326215407831526 := 0
def tw16739589761367688913 := 0
def tw7822837880654842754 := 0
def tw12390235925989989297 := 0
def tw10332406759341146147 := 0
def tw5522299362221754907 := 0
def tw11098021501965739889 := 0
def tw9480563747436619585 := 0
def tw2192332514050815714 := 0
def tw8808087614068731609 := 0
def tw2700012196167417914 := 0
def tw13263191442338684153 := 0
def tw8839497235476224406 := 0
def tw13536018117061555197 := 0
def tw9865176052014586165 := 0
def tw6395892965438474333 := 0
def tw7733312979507732492 := 0
def tw10148679908766895823 := 0
def tw13344045065876259797 := 0
def tw14849201371209197183 := 0
def tw8764629950589785748 := 0
def tw11663301604271210651 := 0
def tw16865659380839433312 := 0
def tw14557129109975443653 := 0
def tw10061225058284461775 := 0
def tw10644176798090454774 := 0
def tw16561949474351235182 := 0
def tw11555458702229495767 := 0
def tw2892269112835907293 := 0
def tw5200420315399785504 := 0
def tw15757703349645403174 := 0
def tw15339826131119992365 := 0
def tw18342652290062184793 := 0
def tw4474057042112319051 := 0
def tw2983364705792539365 := 0
def tw10599979333118085458 := 0
def tw4237935045804911894 := 0
def tw9544851559905003571 := 0
def tw7834746217345209354 := 0
def tw9285743140228159139 := 0
def tw12786325579779592829 := 0
def tw5538167912870039514 := 0
def tw3125298758245448614 := 0
def tw8971281738607131766 := 0
def tw4684178904116226873 := 0
def tw6557102126665117289 := 0
def tw8948489513573888971 := 0
def tw1739845667032159132 := 0
def tw3801444125372226831 := 0
def tw5092832448785457066 := 0
def tw17817256637119062946 := 0
def tw13084455384219380852 := 0
end PySem.W.Fast
open PySem PySem.W PyProof.Rows
theorem PySem.Challenge.cw_fairdoor_s01_answers_holds : PySem.Challenge.rw_fairdoor_s01_answers.Holds := by
  w_on
  o_headS (kHook Fd.KK Fd.kk Fd.kk_is)
  (case hw => exact ⟨[.list []], by decide +kernel, by decide +kernel⟩)
  exact Fd.fin_all rfl rfl
