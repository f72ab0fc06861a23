import PyProof.Rows.All
import Wide.All
import OpenK.AllK
import Wide.FinOn
import HandS.ForMost
import HandS.ForExc
import HandS.Strs
import HandS.Deep
import HandS.TupAny
import HandS.TupLe
import HandS.IsInst
import HandS.Conv
import HandS.Wide
import HandS.ExcOwn
import HandS.StrMore
import HandS.ExcCtx
import HandS.HotCalls
import HandS.ExcIs
import HandS.NestedHot
import KE.KExcIs
import HandS.ExcField
import HandS.Defaults
import HandS.Head0
import HandS.Head1
import HandS.Head2
import HandS.HeadEnd
import HandS.HeadHook1
import HandS.HeadHook2
import HandS.ExcInit
import HandS.FStr
import HandS.SortInts
import PySem.Challenge.RW_surelyread_k20_allowed_regions
import HandS.Codes
set_option Elab.async false
set_option linter.all false
set_option maxRecDepth 100000
set_option maxHeartbeats 4000000
/-! DL: a reading of the hand layer by plain data: what a term computes is a total function over data and a store of the lists that still change. -/
namespace DL
open PySem PySem.Spec PyProof.Rows L2
abbrev St := L2.St

/-- the written part, and the addresses of things that are being made (no data speaks of them) -/
structure Kh where
  K : PySem.W.Frag
  h : Addr → Prop
/-! ### data, store -/
inductive D where
  | p (d : PyData)
  | ob (n : Nat)
  | scr (ns : List Int)
  | xc (a : Addr) (dd : Option Addr) (fs : List (Str × PyData))
/-- the value of a bare thing -/
def sV : PyData → V
  | .bool b => .bl b
  | .int i => .int i
  | .str x => .str x
  | _ => .non
def sVs (fs : List (Str × PyData)) : List (Str × V) := fs.map fun p => (p.1, sV p.2)
abbrev D.int (i : Int) : D := .p (.int i)
abbrev D.bl (b : Bool) : D := .p (.bool b)
abbrev D.str (s : Str) : D := .p (.str s)
abbrev D.non : D := .p .none
abbrev D.tup (l : List PyData) : D := .p (.tuple l)
abbrev D.lst (l : List PyData) : D := .p (.list l)
inductive O where
  | lst (l : List D)
  | fz (l : List PyData)
  | dic (kvs : List (List Key × D))
abbrev Sto := List O
abbrev Env := List (Option D)
def O.live : O → Bool
  | .lst _ => true
  | .dic _ => true
  | _ => false
/-- the addresses of what still changes -/
def lv (K : Kh) (m : List Addr) (S : Sto) (a : Addr) : Prop := K.h a ∨ ∃ (n : Nat) (o : O), m[n]? = some a ∧ S[n]? = some o ∧ O.live o = true

mutual
def RP (K : Kh) (H : Hp) (L : Addr → Prop) : PyData → V → Prop
  | .none, v => v = .non
  | .bool b, v => v = .bl b
  | .int i, v => v = .int i
  | .str x, v => v = .str x
  | .list l, v => ∃ a vs, v = .ref a ∧ H a = some (.lst vs) ∧ ¬ L a ∧ RPs K H L l vs
  | .tuple l, v => ∃ a vs, v = .ref a ∧ SqT K.K H a vs ∧ RPs K H L l vs
  | .dict _, _ => False
def RPs (K : Kh) (H : Hp) (L : Addr → Prop) : List PyData → List V → Prop
  | [], vs => vs = []
  | d :: l, vs => ∃ v r, vs = v :: r ∧ RP K H L d v ∧ RPs K H L l r
end
def RD (K : Kh) (m : List Addr) (S : Sto) (H : Hp) : D → V → Prop
  | .p d, v => RP K H (lv K m S) d v
  | .ob n, v => ∃ a, m[n]? = some a ∧ v = .ref a
  | .scr ns, v => ∃ a, v = .ref a ∧ ((∃ o, H a = some (.frz o (.lst (ns.map V.int)))) ∨ SqL K.K (fun _ => none) a (ns.map V.int))
  | .xc a dd fs, v => v = .ref a ∧ ∀ d, dd = some d → H d = some (.xd (sVs fs))
abbrev RDs (K : Kh) (m : List Addr) (S : Sto) (H : Hp) : List D → List V → Prop := Paired (RD K m S H)
abbrev RKV (K : Kh) (m : List Addr) (S : Sto) (H : Hp) : List (List Key × D) → List (List Key × V) → Prop := Paired fun p q => p.1 = q.1 ∧ RD K m S H p.2 q.2
def RO (K : Kh) (m : List Addr) (S : Sto) (H : Hp) (a : Addr) : O → Prop
  | .lst l => ∃ vs, H a = some (.lst vs) ∧ RDs K m S H l vs
  | .fz l => ∃ vs, H a = some (.lst vs) ∧ RPs K H (lv K m S) l vs
  | .dic kvs => ∃ ws, H a = some (.dT ws) ∧ RKV K m S H kvs ws
/-- what may change -/
def Mb : HO → Prop
  | .tup _ => False
  | .frz _ _ => False
  | .xd _ => False
  | _ => True
structure Rl (K : Kh) (m : List Addr) (S : Sto) (H : Hp) : Prop where
  len : m.length = S.length
  nd : m.Nodup
  hid : ∀ a, K.h a → a ∉ m ∧ ∃ u, H a = some u ∧ Mb u
  obj : ∀ (n : Nat) (a : Addr) (o : O), m[n]? = some a → S[n]? = some o → RO K m S H a o
abbrev RE (K : Kh) (m : List Addr) (S : Sto) (H : Hp) : Env → St → Prop := Paired fun od ov => ∀ d, od = some d → ∃ v, ov = some v ∧ RD K m S H d v
/-- what stays -/
structure Nx (K : Kh) (m : List Addr) (S : Sto) (H : Hp) (m' : List Addr) (S' : Sto) (H' : Hp) : Prop where
  tup : ∀ a vs, SqT K.K H a vs → SqT K.K H' a vs
  lst : ∀ a vs, H a = some (.lst vs) → ¬ lv K m S a → H' a = some (.lst vs) ∧ ¬ lv K m' S' a
  ext : ∃ t, m' = m ++ t
  frz : ∀ a o u, H a = some (.frz o u) → H' a = some (.frz o u)
  xd : ∀ a fs, H a = some (.xd fs) → H' a = some (.xd fs)
  hid : ∀ a, K.h a → H' a = H a

section
variable {K : Kh} {m m' m1 m2 : List Addr} {S S' S1 S2 : Sto} {H H' H1 H2 : Hp} {L L' : Addr → Prop}
theorem Nx.refl : Nx K m S H m S H := ⟨fun _ _ h => h, fun _ _ h n => ⟨h, n⟩, ⟨[], by simp⟩, fun _ _ _ h => h, fun _ _ h => h, fun _ _ => rfl⟩
theorem Nx.trans (a : Nx K m S H m1 S1 H1) (b : Nx K m1 S1 H1 m2 S2 H2) : Nx K m S H m2 S2 H2 :=
  ⟨fun x vs h => b.tup x vs (a.tup x vs h), fun x vs h n => let ⟨h1, n1⟩ := a.lst x vs h n; b.lst x vs h1 n1, by
    obtain ⟨t1, rfl⟩ := a.ext
    obtain ⟨t2, rfl⟩ := b.ext
    exact ⟨t1 ++ t2, by simp⟩, fun x o u h => b.frz x o u (a.frz x o u h), fun x u h => b.xd x u (a.xd x u h), fun x h => (b.hid x h).trans (a.hid x h)⟩
mutual
theorem RP.mono (ht : ∀ a vs, SqT K.K H a vs → SqT K.K H' a vs) (hl : ∀ a vs, H a = some (.lst vs) → ¬ L a → H' a = some (.lst vs) ∧ ¬ L' a) : ∀ (d : PyData) (v : V), RP K H L d v → RP K H' L' d v
  | .none, v, h => by simpa [RP] using h
  | .bool b, v, h => by simpa [RP] using h
  | .int i, v, h => by simpa [RP] using h
  | .str x, v, h => by simpa [RP] using h
  | .list l, v, h => by
    rw [RP] at h ⊢
    obtain ⟨a, vs, e, h1, h2, h3⟩ := h
    obtain ⟨g1, g2⟩ := hl a vs h1 h2
    exact ⟨a, vs, e, g1, g2, RPs.mono ht hl l vs h3⟩
  | .tuple l, v, h => by
    rw [RP] at h ⊢
    obtain ⟨a, vs, e, h1, h3⟩ := h
    exact ⟨a, vs, e, ht a vs h1, RPs.mono ht hl l vs h3⟩
  | .dict _, v, h => by rw [RP] at h; exact h.elim
theorem RPs.mono (ht : ∀ a vs, SqT K.K H a vs → SqT K.K H' a vs) (hl : ∀ a vs, H a = some (.lst vs) → ¬ L a → H' a = some (.lst vs) ∧ ¬ L' a) : ∀ (l : List PyData) (vs : List V), RPs K H L l vs → RPs K H' L' l vs
  | [], vs, h => by simpa [RPs] using h
  | d :: l, vs, h => by
    rw [RPs] at h ⊢
    obtain ⟨v, r, e, h1, h2⟩ := h
    exact ⟨v, r, e, RP.mono ht hl d v h1, RPs.mono ht hl l r h2⟩
end
theorem RP.nx (n : Nx K m S H m' S' H') {d : PyData} {v : V} (h : RP K H (lv K m S) d v) : RP K H' (lv K m' S') d v := RP.mono n.tup n.lst d v h
theorem RPs.nx (n : Nx K m S H m' S' H') {d : List PyData} {v : List V} (h : RPs K H (lv K m S) d v) : RPs K H' (lv K m' S') d v := RPs.mono n.tup n.lst d v h
theorem RD.nx (n : Nx K m S H m' S' H') {d : D} {v : V} (h : RD K m S H d v) : RD K m' S' H' d v := by
  cases d with
  | p d => exact RP.nx n h
  | ob k =>
    obtain ⟨a, e, rfl⟩ := h
    obtain ⟨t, rfl⟩ := n.ext
    refine ⟨a, ?_, rfl⟩
    rw [List.getElem?_append_left (List.getElem?_eq_some_iff.mp e).1]
    exact e
  | scr ns =>
    obtain ⟨a, rfl, h | h⟩ := h
    · obtain ⟨o, h⟩ := h
      exact ⟨a, rfl, .inl ⟨o, n.frz _ _ _ h⟩⟩
    · exact ⟨a, rfl, .inr h⟩
  | xc a dd fs => exact ⟨h.1, fun d e => n.xd _ _ (h.2 d e)⟩
theorem pairMono {α β : Type} {F G : α → β → Prop} (h : ∀ a b, F a b → G a b) {l : List α} {r : List β} (q : Paired F l r) : Paired G l r := by
  induction q with
  | nil => exact .nil
  | cons a _ ih => exact .cons (h _ _ a) ih
theorem RDs.nx (n : Nx K m S H m' S' H') {d : List D} {v : List V} (h : RDs K m S H d v) : RDs K m' S' H' d v := pairMono (fun _ _ => RD.nx n) h
theorem RKV.nx (n : Nx K m S H m' S' H') {d : List (List Key × D)} {v} (h : RKV K m S H d v) : RKV K m' S' H' d v := pairMono (fun _ _ q => ⟨q.1, RD.nx n q.2⟩) h
theorem RE.nx (n : Nx K m S H m' S' H') {ρ : Env} {σ : St} (h : RE K m S H ρ σ) : RE K m' S' H' ρ σ :=
  pairMono (fun _ _ q d e => let ⟨v, a, b⟩ := q d e; ⟨v, a, RD.nx n b⟩) h
theorem RPs_iff {l : List PyData} {vs : List V} : RPs K H L l vs ↔ Paired (RP K H L) l vs := by
  induction l generalizing vs with
  | nil =>
    rw [RPs]
    constructor
    · rintro rfl; exact .nil
    · intro h; cases h; rfl
  | cons d l ih =>
    rw [RPs]
    constructor
    · rintro ⟨v, r, rfl, h1, h2⟩
      exact .cons h1 (ih.mp h2)
    · intro h
      cases h with
      | cons h1 h2 => exact ⟨_, _, rfl, h1, ih.mpr h2⟩
theorem RDs_p {l : List PyData} {vs : List V} : RDs K m S H (l.map .p) vs ↔ RPs K H (lv K m S) l vs := by
  rw [RPs_iff]
  induction l generalizing vs with
  | nil =>
    constructor
    · intro h; cases h; exact .nil
    · intro h; cases h; exact .nil
  | cons d l ih =>
    rw [List.map_cons]
    constructor
    · intro h
      cases h with
      | cons h1 h2 => exact .cons h1 (ih.mp h2)
    · intro h
      cases h with
      | cons h1 h2 => exact .cons h1 (ih.mpr h2)
theorem pairLen {α β : Type} {F : α → β → Prop} {l : List α} {r : List β} (q : Paired F l r) : l.length = r.length := by
  induction q with
  | nil => rfl
  | cons a _ ih => simp [ih]
theorem pairGet {α β : Type} {F : α → β → Prop} {l : List α} {r : List β} (q : Paired F l r) {i : Nat} {a : α} (e : l[i]? = some a) : ∃ b, r[i]? = some b ∧ F a b := by
  induction q generalizing i with
  | nil => simp at e
  | cons h _ ih =>
    cases i with
    | zero =>
      simp at e
      subst e
      exact ⟨_, rfl, h⟩
    | succ i => exact ih (by simpa using e)
theorem pairGetR {α β : Type} {F : α → β → Prop} {l : List α} {r : List β} (q : Paired F l r) {i : Nat} {b : β} (e : r[i]? = some b) : ∃ a, l[i]? = some a ∧ F a b := by
  induction q generalizing i with
  | nil => simp at e
  | cons h _ ih =>
    cases i with
    | zero =>
      simp at e
      subst e
      exact ⟨_, rfl, h⟩
    | succ i => exact ih (by simpa using e)
theorem pairSet {α β : Type} {F : α → β → Prop} {l : List α} {r : List β} (q : Paired F l r) {i : Nat} {a : α} {b : β} (h : F a b) : Paired F (l.set i a) (r.set i b) := by
  induction q generalizing i with
  | nil => exact .nil
  | cons x t ih =>
    cases i with
    | zero => exact .cons h t
    | succ i => exact .cons x ih
theorem pairApp {α β : Type} {F : α → β → Prop} {l l' : List α} {r r' : List β} (q : Paired F l r) (q' : Paired F l' r') : Paired F (l ++ l') (r ++ r') := by
  induction q with
  | nil => exact q'
  | cons x t ih => exact .cons x ih
theorem pairTake {α β : Type} {F : α → β → Prop} {l : List α} {r : List β} (q : Paired F l r) (n : Nat) : Paired F (l.take n) (r.take n) := by
  induction q generalizing n with
  | nil => simp; exact .nil
  | cons x t ih =>
    cases n with
    | zero => exact .nil
    | succ n => exact .cons x (ih n)
theorem pairDrop {α β : Type} {F : α → β → Prop} {l : List α} {r : List β} (q : Paired F l r) (n : Nat) : Paired F (l.drop n) (r.drop n) := by
  induction q generalizing n with
  | nil => simp; exact .nil
  | cons x t ih =>
    cases n with
    | zero => exact .cons x t
    | succ n => exact ih n
theorem pairRev {α β : Type} {F : α → β → Prop} {l : List α} {r : List β} (q : Paired F l r) : Paired F l.reverse r.reverse := by
  induction q with
  | nil => exact .nil
  | cons x t ih =>
    rw [List.reverse_cons, List.reverse_cons]
    exact pairApp ih (.cons x .nil)
mutual
theorem RP.kk {K K' : Kh} (e : K.K = K'.K) : ∀ (d : PyData) (v : V), RP K H L d v → RP K' H L d v
  | .none, v, h => by simpa [RP] using h
  | .bool b, v, h => by simpa [RP] using h
  | .int i, v, h => by simpa [RP] using h
  | .str x, v, h => by simpa [RP] using h
  | .list l, v, h => by
    rw [RP] at h ⊢
    obtain ⟨a, vs, e1, h1, h2, h3⟩ := h
    exact ⟨a, vs, e1, h1, h2, RPs.kk e l vs h3⟩
  | .tuple l, v, h => by
    rw [RP] at h ⊢
    obtain ⟨a, vs, e1, h1, h3⟩ := h
    exact ⟨a, vs, e1, e ▸ h1, RPs.kk e l vs h3⟩
  | .dict _, v, h => by rw [RP] at h; exact h.elim
theorem RPs.kk {K K' : Kh} (e : K.K = K'.K) : ∀ (l : List PyData) (vs : List V), RPs K H L l vs → RPs K' H L l vs
  | [], vs, h => by simpa [RPs] using h
  | d :: l, vs, h => by
    rw [RPs] at h ⊢
    obtain ⟨v, r, e1, h1, h2⟩ := h
    exact ⟨v, r, e1, RP.kk e d v h1, RPs.kk e l r h2⟩
end
mutual
theorem RP.dp : ∀ (d : PyData) (v : V), RP K H L d v → Dp K.K H v d
  | .none, v, h => by rw [RP] at h; subst h; exact .non
  | .bool b, v, h => by rw [RP] at h; subst h; exact .bl b
  | .int i, v, h => by rw [RP] at h; subst h; exact .int i
  | .str x, v, h => by rw [RP] at h; subst h; exact .str x
  | .list l, v, h => by
    rw [RP] at h
    obtain ⟨a, vs, rfl, h1, h2, h3⟩ := h
    exact .lst (.of h1) (RPs.dp l vs h3)
  | .tuple l, v, h => by
    rw [RP] at h
    obtain ⟨a, vs, rfl, h1, h3⟩ := h
    exact .tup h1 (RPs.dp l vs h3)
  | .dict _, v, h => by rw [RP] at h; exact h.elim
theorem RPs.dp : ∀ (l : List PyData) (vs : List V), RPs K H L l vs → DpAll K.K H vs l
  | [], vs, h => by rw [RPs] at h; subst h; exact .nil
  | d :: l, vs, h => by
    rw [RPs] at h
    obtain ⟨v, r, rfl, h1, h2⟩ := h
    exact .cons (RP.dp d v h1) (RPs.dp l r h2)
end

/-! ### steps of the heap -/
theorem lvAddr (r : Rl K m S H) {a : Addr} (h : lv K m S a) : ∃ u, H a = some u ∧ Mb u := by
  rcases h with h | ⟨n, o, e1, e2, e3⟩
  · exact (r.hid a h).2
  · have q := r.obj n a o e1 e2
    cases o with
    | lst l => obtain ⟨vs, h, _⟩ := q; exact ⟨_, h, trivial⟩
    | dic l => obtain ⟨vs, h, _⟩ := q; exact ⟨_, h, trivial⟩
    | fz l => cases e3
theorem sqT_upd {a b : Addr} {o : HO} {vs : List V} (h : SqT K.K H a vs) (hb : H b = none ∨ ∃ u, H b = some u ∧ Mb u) : SqT K.K (upd H b o) a vs := by
  rcases h with h | h
  · refine .inl ?_
    have ne : a ≠ b := by
      rintro rfl
      rcases h with h | ⟨_, h⟩
      · rcases hb with q | ⟨u, q, mu⟩
        · rw [h] at q; cases q
        · rw [h] at q; cases q; exact mu
      · rcases hb with q | ⟨u, q, mu⟩
        · rw [h] at q; cases q
        · rw [h] at q; cases q; exact mu
    rcases h with h | ⟨u, h⟩
    · exact .inl (by rw [upd_ne ne]; exact h)
    · exact .inr ⟨u, by rw [upd_ne ne]; exact h⟩
  · exact .inr h
theorem Rl.hne (r : Rl K m S H) {a p : Addr} (h : K.h a) (hp : H p = none) : a ≠ p := by
  rintro rfl
  obtain ⟨u, e, _⟩ := (r.hid a h).2
  rw [hp] at e; cases e
/-- a new thing that is not kept as a changing one -/
theorem Nx.new (r : Rl K m S H) {p : Addr} {o : HO} (hp : H p = none) : Nx K m S H m S (upd H p o) :=
  ⟨fun a vs h => sqT_upd h (.inl hp), fun a vs h n => ⟨by rw [upd_ne (ne_of_none h hp)]; exact h, n⟩, ⟨[], by simp⟩, fun a x u h => by rw [upd_ne (ne_of_none h hp)]; exact h, fun a u h => by rw [upd_ne (ne_of_none h hp)]; exact h,
    fun a h => upd_ne (r.hne h hp)⟩
end
end DL

namespace DL
open PySem PySem.Spec PyProof.Rows L2
section
variable {K : Kh} {m m' m1 m2 : List Addr} {S S' S1 S2 : Sto} {H H' H1 H2 : Hp} {a p : Addr} {n : Nat}
theorem RO.nx (x : Nx K m S H m' S' H') {o : O} (h : RO K m S H a o) (e : H' a = H a) : RO K m' S' H' a o := by
  cases o with
  | lst l => obtain ⟨vs, q, r⟩ := h; exact ⟨vs, e.trans q, r.nx x⟩
  | fz l => obtain ⟨vs, q, r⟩ := h; exact ⟨vs, e.trans q, r.nx x⟩
  | dic l => obtain ⟨ws, q, r⟩ := h; exact ⟨ws, e.trans q, r.nx x⟩
theorem RO.some {o : O} (h : RO K m S H a o) : ∃ u, H a = some u := by
  cases o with
  | lst l => obtain ⟨vs, q, _⟩ := h; exact ⟨_, q⟩
  | fz l => obtain ⟨vs, q, _⟩ := h; exact ⟨_, q⟩
  | dic l => obtain ⟨ws, q, _⟩ := h; exact ⟨_, q⟩
theorem Rl.at (r : Rl K m S H) (em : m[n]? = some a) : ∃ o, S[n]? = some o ∧ RO K m S H a o := by
  have h := (List.getElem?_eq_some_iff.mp em).1
  have h2 : n < S.length := by rw [← r.len]; exact h
  exact ⟨S[n], List.getElem?_eq_getElem h2, r.obj n a _ em (List.getElem?_eq_getElem h2)⟩
theorem Rl.adr (r : Rl K m S H) {o : O} (es : S[n]? = some o) : ∃ a, m[n]? = some a ∧ RO K m S H a o := by
  have h := (List.getElem?_eq_some_iff.mp es).1
  have h2 : n < m.length := by rw [r.len]; exact h
  exact ⟨m[n], List.getElem?_eq_getElem h2, r.obj n _ o (List.getElem?_eq_getElem h2) es⟩
theorem Rl.in_some (r : Rl K m S H) (h : a ∈ m) : ∃ u, H a = some u := by
  obtain ⟨n, e⟩ := List.mem_iff_getElem?.mp h
  obtain ⟨o, _, q⟩ := r.at e
  exact q.some
/-- a new thing, untold -/
theorem Rl.new {o : HO} (r : Rl K m S H) (hp : H p = none) : Rl K m S (upd H p o) := by
  refine ⟨r.len, r.nd, fun a h => ⟨(r.hid a h).1, by rw [upd_ne (r.hne h hp)]; exact (r.hid a h).2⟩, fun n a x em es => ?_⟩
  have q := r.obj n a x em es
  obtain ⟨u, hu⟩ := q.some
  exact q.nx (Nx.new r hp) (upd_ne (ne_of_none hu hp))
theorem nodup_ne {l : List Addr} (h : l.Nodup) {i j : Nat} {x y : Addr} (hi : l[i]? = some x) (hj : l[j]? = some y) (ne : i ≠ j) : x ≠ y := by
  rintro rfl
  obtain ⟨h1, e1⟩ := List.getElem?_eq_some_iff.mp hi
  obtain ⟨h2, e2⟩ := List.getElem?_eq_some_iff.mp hj
  exact ne ((List.getElem_inj h).mp (e1.trans e2.symm))
theorem lv_set {o o' : O} (es : S[n]? = some o) (ol : O.live o = true) (h : lv K m (S.set n o') a) : lv K m S a := by
  rcases h with h | ⟨k, x, e1, e2, e3⟩
  · exact .inl h
  · by_cases hk : n = k
    · subst hk
      exact .inr ⟨n, o, e1, es, ol⟩
    · rw [List.getElem?_set_ne hk] at e2
      exact .inr ⟨k, x, e1, e2, e3⟩
/-- more is being made: nothing told so far speaks of it -/
theorem RP.nxh {h' : Addr → Prop} (x : Nx K m S H m' S' H') (hs : ∀ a, h' a → K.h a ∨ H a = none) {d : PyData} {v : V} (h : RP K H (lv K m S) d v) : RP ⟨K.K, h'⟩ H' (lv ⟨K.K, h'⟩ m' S') d v := by
  have key := RP.mono (K := K) (H' := H') (L' := lv ⟨K.K, h'⟩ m' S') x.tup (fun a vs e nl => by
    obtain ⟨e1, n1⟩ := x.lst a vs e nl
    refine ⟨e1, fun z => ?_⟩
    rcases z with z | z
    · rcases hs a z with q | q
      · exact nl (.inl q)
      · rw [e] at q; cases q
    · exact n1 (.inr z)) d v h
  exact RP.kk (K := K) (K' := ⟨K.K, h'⟩) rfl _ _ key
theorem RD.nxh {h' : Addr → Prop} (x : Nx K m S H m' S' H') (hs : ∀ a, h' a → K.h a ∨ H a = none) {d : D} {v : V} (h : RD K m S H d v) : RD ⟨K.K, h'⟩ m' S' H' d v := by
  cases d with
  | p d => exact RP.nxh x hs h
  | ob n => exact (RD.nx x (d := .ob n) h : RD K m' S' H' (.ob n) v)
  | scr ns => exact (RD.nx x (d := .scr ns) h : RD K m' S' H' (.scr ns) v)
  | xc a dd fs => exact (RD.nx x (d := .xc a dd fs) h : RD K m' S' H' (.xc a dd fs) v)
theorem RDs.nxh {h' : Addr → Prop} (x : Nx K m S H m' S' H') (hs : ∀ a, h' a → K.h a ∨ H a = none) {d : List D} {v : List V} (h : RDs K m S H d v) : RDs ⟨K.K, h'⟩ m' S' H' d v := pairMono (fun _ _ => RD.nxh x hs) h
theorem RE.nxh {h' : Addr → Prop} (x : Nx K m S H m' S' H') (hs : ∀ a, h' a → K.h a ∨ H a = none) {ρ : Env} {σ : St} (h : RE K m S H ρ σ) : RE ⟨K.K, h'⟩ m' S' H' ρ σ :=
  pairMono (fun _ _ q d e => let ⟨v, a, b⟩ := q d e; ⟨v, a, RD.nxh x hs b⟩) h
/-- what is no longer being made may be spoken of -/
theorem RD.unh {h' : Addr → Prop} (hs : ∀ a, h' a → K.h a) {d : D} {v : V} (h : RD K m S H d v) : RD ⟨K.K, h'⟩ m S H d v := by
  cases d with
  | p d =>
    refine RP.kk (K := K) (K' := ⟨K.K, h'⟩) rfl _ _ (RP.mono (K := K) (L' := lv ⟨K.K, h'⟩ m S) (fun _ _ q => q) (fun a vs e nl => ⟨e, fun z => nl ?_⟩) d v h)
    rcases z with z | z
    · exact .inl (hs a z)
    · exact .inr z
  | ob n => exact h
  | scr ns => exact h
  | xc a dd fs => exact h
theorem Rl.unh {h' : Addr → Prop} (hs : ∀ a, h' a → K.h a) (r : Rl K m S H) : Rl ⟨K.K, h'⟩ m S H := by
  refine ⟨r.len, r.nd, fun a h => r.hid a (hs a h), fun n a o em es => ?_⟩
  have q := r.obj n a o em es
  cases o with
  | lst l => obtain ⟨vs, e, q⟩ := q; exact ⟨vs, e, pairMono (fun _ _ => RD.unh hs) q⟩
  | fz l =>
    obtain ⟨vs, e, q⟩ := q
    exact ⟨vs, e, RDs_p.mp (pairMono (fun _ _ => RD.unh hs) (RDs_p.mpr q))⟩
  | dic l => obtain ⟨vs, e, q⟩ := q; exact ⟨vs, e, pairMono (fun _ _ q => ⟨q.1, RD.unh hs q.2⟩) q⟩
/-- a new thing that is being made -/
theorem Rl.hide {ho : HO} (r : Rl K m S H) (hp : H p = none) (mu : Mb ho) : Rl ⟨K.K, fun a => K.h a ∨ a = p⟩ m S (upd H p ho) := by
  have x := Nx.new (o := ho) r hp
  have hs : ∀ a, (K.h a ∨ a = p) → K.h a ∨ H a = none := fun a z => z.elim .inl fun z => .inr (by rw [z]; exact hp)
  refine ⟨r.len, r.nd, fun a h => ?_, fun n a o em es => ?_⟩
  · rcases h with h | h
    · exact ⟨(r.hid a h).1, by rw [upd_ne (r.hne h hp)]; exact (r.hid a h).2⟩
    · subst h
      exact ⟨fun z => (by
        obtain ⟨u, e⟩ := r.in_some z
        rw [hp] at e
        cases e), ho, upd_same, mu⟩
  · have q := r.obj n a o em es
    obtain ⟨u, hu⟩ := q.some
    have e : (upd H p ho) a = H a := upd_ne (ne_of_none hu hp)
    cases o with
    | lst l => obtain ⟨vs, e1, q⟩ := q; exact ⟨vs, e.trans e1, RDs.nxh x hs q⟩
    | fz l =>
      obtain ⟨vs, e1, q⟩ := q
      exact ⟨vs, e.trans e1, RDs_p.mp (RDs.nxh x hs (RDs_p.mpr q))⟩
    | dic l => obtain ⟨vs, e1, q⟩ := q; exact ⟨vs, e.trans e1, pairMono (fun _ _ q => ⟨q.1, RD.nxh x hs q.2⟩) q⟩
/-- .. is written -/
theorem hid_upd_lst {o : HO} (r : Rl K m S H) (hp : K.h p) : ∀ a vs, H a = some (.lst vs) → ¬ lv K m S a → (upd H p o) a = some (.lst vs) ∧ ¬ lv K m S a := fun a vs e nl =>
  ⟨by rw [upd_ne (fun z => nl (.inl (by rw [z]; exact hp)))]; exact e, nl⟩
theorem Rl.hidw {o : HO} (r : Rl K m S H) (hp : K.h p) (mu : Mb o) : Rl K m S (upd H p o) := by
  have ht : ∀ a vs, SqT K.K H a vs → SqT K.K (upd H p o) a vs := fun a vs h => sqT_upd h (.inr (r.hid p hp).2)
  have hl := hid_upd_lst (o := o) r hp
  have hd : ∀ {d : D} {v : V}, RD K m S H d v → RD K m S (upd H p o) d v := fun {d v} h => by
    cases d with
    | p d => exact RP.mono ht hl d v h
    | ob n => exact h
    | scr ns =>
      obtain ⟨a, rfl, h | h⟩ := h
      · obtain ⟨ob, h⟩ := h
        refine ⟨a, rfl, .inl ⟨ob, ?_⟩⟩
        rw [upd_ne fun z => ?_]
        · exact h
        · subst z
          obtain ⟨u, e, mu⟩ := (r.hid a hp).2
          rw [h] at e; cases e; exact mu
      · exact ⟨a, rfl, .inr h⟩
    | xc a dd fs =>
      refine ⟨h.1, fun d e => ?_⟩
      have q := h.2 d e
      rw [upd_ne fun z => ?_]
      · exact q
      · subst z
        obtain ⟨u, e2, mu⟩ := (r.hid d hp).2
        rw [q] at e2; cases e2; exact mu
  refine ⟨r.len, r.nd, fun a h => ?_, fun n a u em es => ?_⟩
  · refine ⟨(r.hid a h).1, ?_⟩
    by_cases e : a = p
    · subst e; exact ⟨o, upd_same, mu⟩
    · rw [upd_ne e]; exact (r.hid a h).2
  · have ne : a ≠ p := fun z => (r.hid p hp).1 (by rw [← z]; exact List.mem_of_getElem? em)
    have q := r.obj n a u em es
    cases u with
    | lst l => obtain ⟨vs, e1, q⟩ := q; exact ⟨vs, (upd_ne ne).trans e1, pairMono (fun _ _ => hd) q⟩
    | fz l =>
      obtain ⟨vs, e1, q⟩ := q
      exact ⟨vs, (upd_ne ne).trans e1, RPs.mono ht hl l vs q⟩
    | dic l => obtain ⟨vs, e1, q⟩ := q; exact ⟨vs, (upd_ne ne).trans e1, pairMono (fun _ _ q => ⟨q.1, hd q.2⟩) q⟩
/-- what stays, seen from ahead of the making -/
theorem Nx.hidden {h' : Addr → Prop} (x : Nx K m S H m1 S1 H1) (y : Nx ⟨K.K, h'⟩ m1 S1 H1 m2 S2 H2) (h1 : ∀ a, K.h a → h' a) (hs : ∀ a, h' a → K.h a ∨ H a = none) : Nx K m S H m2 S2 H2 := by
  refine ⟨fun a vs h => y.tup a vs (x.tup a vs h), fun a vs h n => ?_, ?_, fun a o u h => y.frz a o u (x.frz a o u h), fun a u h => y.xd a u (x.xd a u h), fun a h => (y.hid a (h1 a h)).trans (x.hid a h)⟩
  · obtain ⟨e, nl⟩ := x.lst a vs h n
    obtain ⟨e2, n2⟩ := y.lst a vs e (fun z => by
      rcases z with z | z
      · rcases hs a z with q | q
        · exact n (.inl q)
        · rw [h] at q; cases q
      · exact nl (.inr z))
    refine ⟨e2, fun z => n2 ?_⟩
    rcases z with z | z
    · exact .inl (h1 a z)
    · exact .inr z
  · obtain ⟨t, rfl⟩ := x.ext
    obtain ⟨t2, rfl⟩ := y.ext
    exact ⟨t ++ t2, by simp⟩
theorem Nx.hidw {o : HO} (x : Nx K m S H m1 S1 H1) (hp : H p = none) (r : ∃ u, H1 p = some u ∧ Mb u) (hk : ¬ K.h p) : Nx K m S H m1 S1 (upd H1 p o) := by
  refine ⟨fun a vs h => sqT_upd (x.tup a vs h) (.inr r), fun a vs h n => ?_, x.ext, fun a u w h => ?_, fun a u h => ?_, fun a h => ?_⟩
  · obtain ⟨e, nl⟩ := x.lst a vs h n
    exact ⟨by rw [upd_ne (ne_of_none h hp)]; exact e, nl⟩
  · rw [upd_ne (ne_of_none h hp)]; exact x.frz a u w h
  · rw [upd_ne (ne_of_none h hp)]; exact x.xd a u h
  · rw [upd_ne (fun z => hk (by rw [← z]; exact h))]; exact x.hid a h
/-- a changing thing is changed -/
theorem Nx.put {o o' : O} {ho : HO} (r : Rl K m S H) (em : m[n]? = some a) (es : S[n]? = some o) (ol : O.live o = true) : Nx K m S H m (S.set n o') (upd H a ho) := by
  have ha : lv K m S a := .inr ⟨n, o, em, es, ol⟩
  have hm : a ∈ m := List.mem_of_getElem? em
  refine ⟨fun b vs h => sqT_upd h (.inr (lvAddr r ha)), fun b vs h nl => ⟨?_, fun z => nl (lv_set es ol z)⟩, ⟨[], by simp⟩, fun b x u h => ?_, fun b u h => ?_, fun b h => ?_⟩
  · rw [upd_ne (fun z => nl (by rw [z]; exact ha))]; exact h
  · have ne : b ≠ a := by
      rintro rfl
      obtain ⟨u', q, mu⟩ := lvAddr r ha
      rw [h] at q; cases q; exact mu
    rw [upd_ne ne]; exact h
  · have ne : b ≠ a := by
      rintro rfl
      obtain ⟨u', q, mu⟩ := lvAddr r ha
      rw [h] at q; cases q; exact mu
    rw [upd_ne ne]; exact h
  · exact upd_ne fun z => (r.hid b h).1 (by rw [z]; exact hm)
theorem Rl.put {o o' : O} {ho : HO} (r : Rl K m S H) (em : m[n]? = some a) (es : S[n]? = some o) (ol : O.live o = true) (ok : RO K m (S.set n o') (upd H a ho) a o') : Rl K m (S.set n o') (upd H a ho) := by
  have hm : a ∈ m := List.mem_of_getElem? em
  refine ⟨by rw [List.length_set]; exact r.len, r.nd, fun b h => ⟨(r.hid b h).1, by rw [upd_ne fun z => (r.hid b h).1 (by rw [z]; exact hm)]; exact (r.hid b h).2⟩, fun k b x ek ex => ?_⟩
  by_cases hk : n = k
  · subst hk
    rw [em] at ek; cases ek
    rw [List.getElem?_set_self (List.getElem?_eq_some_iff.mp es).1] at ex; cases ex
    exact ok
  · rw [List.getElem?_set_ne hk] at ex
    exact (r.obj k b x ek ex).nx (Nx.put r em es ol) (upd_ne (nodup_ne r.nd ek em (Ne.symm hk)))
theorem Rl.putL {l l' : List D} {vs : List V} (r : Rl K m S H) (em : m[n]? = some a) (es : S[n]? = some (.lst l)) (h : RDs K m S H l' vs) : Rl K m (S.set n (.lst l')) (upd H a (.lst vs)) :=
  r.put em es rfl ⟨vs, upd_same, h.nx (Nx.put r em es rfl)⟩
theorem Rl.putT {l l' : List (List Key × D)} {vs : List (List Key × V)} (r : Rl K m S H) (em : m[n]? = some a) (es : S[n]? = some (.dic l)) (h : RKV K m S H l' vs) : Rl K m (S.set n (.dic l')) (upd H a (.dT vs)) :=
  r.put em es rfl ⟨vs, upd_same, h.nx (Nx.put r em es rfl)⟩
/-- a new changing thing -/
theorem lv_push {o : O} (r : Rl K m S H) (h : lv K (m ++ [p]) (S ++ [o]) a) : lv K m S a ∨ a = p := by
  rcases h with h | ⟨k, x, e1, e2, e3⟩
  · exact .inl (.inl h)
  · by_cases hk : k < m.length
    · rw [List.getElem?_append_left hk] at e1
      rw [List.getElem?_append_left (by rw [← r.len]; exact hk)] at e2
      exact .inl (.inr ⟨k, x, e1, e2, e3⟩)
    · rw [List.getElem?_append_right (Nat.le_of_not_lt hk)] at e1
      have : k - m.length = 0 := by
        have := (List.getElem?_eq_some_iff.mp e1).1
        simp at this
        omega
      rw [this] at e1
      exact .inr (Option.some.inj e1).symm
theorem Nx.push {o : O} {ho : HO} (r : Rl K m S H) (hp : H p = none) : Nx K m S H (m ++ [p]) (S ++ [o]) (upd H p ho) := by
  refine ⟨fun b vs h => sqT_upd h (.inl hp), fun b vs h nl => ⟨?_, fun z => ?_⟩, ⟨[p], rfl⟩, fun b x u h => ?_, fun b u h => ?_, fun b h => upd_ne (r.hne h hp)⟩
  · rw [upd_ne (ne_of_none h hp)]; exact h
  · rcases lv_push r z with z | z
    · exact nl z
    · subst z; rw [h] at hp; cases hp
  · rw [upd_ne (ne_of_none h hp)]; exact h
  · rw [upd_ne (ne_of_none h hp)]; exact h
theorem Rl.push {o : O} {ho : HO} (r : Rl K m S H) (hp : H p = none) (ok : RO K (m ++ [p]) (S ++ [o]) (upd H p ho) p o) : Rl K (m ++ [p]) (S ++ [o]) (upd H p ho) := by
  refine ⟨by simp [r.len], ?_, fun b h => ⟨fun z => ?_, by rw [upd_ne (r.hne h hp)]; exact (r.hid b h).2⟩, fun k b x ek ex => ?_⟩
  · rw [List.nodup_append]
    refine ⟨r.nd, by simp, fun x hx y hy => ?_⟩
    have : y = p := by simpa using hy
    subst this
    obtain ⟨u, hu⟩ := r.in_some hx
    exact ne_of_none hu hp
  · rcases List.mem_append.mp z with z | z
    · exact (r.hid b h).1 z
    · exact r.hne h hp (by simpa using z)
  · by_cases hk : k < m.length
    · rw [List.getElem?_append_left hk] at ek
      rw [List.getElem?_append_left (by rw [← r.len]; exact hk)] at ex
      have q := r.obj k b x ek ex
      obtain ⟨u, hu⟩ := q.some
      exact q.nx (Nx.push r hp) (upd_ne (ne_of_none hu hp))
    · rw [List.getElem?_append_right (Nat.le_of_not_lt hk)] at ek
      have h0 : k - m.length = 0 := by
        have := (List.getElem?_eq_some_iff.mp ek).1
        simp at this
        omega
      rw [h0] at ek
      have eb : b = p := (Option.some.inj ek).symm
      subst eb
      rw [List.getElem?_append_right (by rw [← r.len]; omega), ← r.len, h0] at ex
      have : x = o := (Option.some.inj ex).symm
      subst this
      exact ok
theorem Rl.pushL {l : List D} {vs : List V} (r : Rl K m S H) (hp : H p = none) (h : RDs K m S H l vs) : Rl K (m ++ [p]) (S ++ [.lst l]) (upd H p (.lst vs)) :=
  r.push hp ⟨vs, upd_same, h.nx (Nx.push r hp)⟩
theorem RD.push {o : O} (r : Rl K m S H) : RD K (m ++ [p]) (S ++ [o]) H' (.ob S.length) (.ref p) := by
  refine ⟨p, ?_, rfl⟩
  rw [← r.len, List.getElem?_append_right (Nat.le_refl _), Nat.sub_self]
  rfl
/-- a changing list comes to rest -/
theorem Nx.rest {l : List PyData} {o : O} (es : S[n]? = some o) (ol : O.live o = true) : Nx K m S H m (S.set n (.fz l)) H :=
  ⟨fun _ _ h => h, fun _ _ h nl => ⟨h, fun z => nl (lv_set es ol z)⟩, ⟨[], by simp⟩, fun _ _ _ h => h, fun _ _ h => h, fun _ _ => rfl⟩
theorem Rl.rest {l : List PyData} (r : Rl K m S H) (es : S[n]? = some (.lst (l.map .p))) : Rl K m (S.set n (.fz l)) H := by
  refine ⟨by rw [List.length_set]; exact r.len, r.nd, r.hid, fun k b x ek ex => ?_⟩
  by_cases hk : n = k
  · subst hk
    rw [List.getElem?_set_self (List.getElem?_eq_some_iff.mp es).1] at ex; cases ex
    obtain ⟨vs, q, h⟩ := r.obj n b _ ek es
    exact ⟨vs, q, RPs.nx (Nx.rest es rfl) (RDs_p.mp h)⟩
  · rw [List.getElem?_set_ne hk] at ex
    exact (r.obj k b x ek ex).nx (Nx.rest es rfl) rfl
theorem rest_not_lv {l : List PyData} (r : Rl K m S H) (em : m[n]? = some a) (es : S[n]? = some (.lst (l.map .p))) : ¬ lv K m (S.set n (.fz l)) a := by
  rintro (h | ⟨k, x, e1, e2, e3⟩)
  · exact (r.hid a h).1 (List.mem_of_getElem? em)
  · by_cases hk : n = k
    · subst hk
      rw [List.getElem?_set_self (List.getElem?_eq_some_iff.mp es).1] at e2; cases e2
      cases e3
    · exact nodup_ne r.nd e1 em (Ne.symm hk) rfl
/-- as a list at rest -/
theorem RD.rest {l : List PyData} (r : Rl K m S H) (em : m[n]? = some a) (es : S[n]? = some (.lst (l.map .p))) : RD K m (S.set n (.fz l)) H (.lst l) (.ref a) := by
  obtain ⟨vs, q, h⟩ := r.obj n a _ em es
  show RP _ _ _ _ _
  rw [RP]
  exact ⟨a, vs, rfl, q, rest_not_lv r em es, RPs.nx (Nx.rest es rfl) (RDs_p.mp h)⟩
/-! what stands only in what is left behind is dropped -/
def ClD (k : Nat) : D → Prop
  | .ob n => n < k
  | _ => True
def ClO (k : Nat) : O → Prop
  | .lst l => ∀ d ∈ l, ClD k d
  | .dic l => ∀ d ∈ l, ClD k d.2
  | .fz _ => True
def ClS (k : Nat) (S : Sto) : Prop := ∀ o ∈ S, ClO k o
theorem RD.cl {d : D} {v : V} (h : RD K m S H d v) : ClD m.length d := by
  cases d with
  | p _ => trivial
  | scr _ => trivial
  | xc _ _ _ => trivial
  | ob n =>
    obtain ⟨a, e, _⟩ := h
    exact (List.getElem?_eq_some_iff.mp e).1
theorem pairAll {α β : Type} {F : α → β → Prop} {P : α → Prop} (h : ∀ a b, F a b → P a) {l : List α} {r : List β} (q : Paired F l r) : ∀ a ∈ l, P a := by
  induction q with
  | nil => intro a h; cases h
  | cons x _ ih =>
    intro a ha
    rcases List.mem_cons.mp ha with rfl | ha
    · exact h _ _ x
    · exact ih a ha
theorem RO.cl {o : O} (h : RO K m S H a o) : ClO m.length o := by
  cases o with
  | lst l => obtain ⟨vs, _, r⟩ := h; exact pairAll (F := RD K m S H) (P := ClD m.length) (fun _ _ q => q.cl) r
  | dic l => obtain ⟨vs, _, r⟩ := h; exact pairAll (F := fun (p : List Key × D) (q : List Key × V) => p.1 = q.1 ∧ RD K m S H p.2 q.2) (P := fun (d : List Key × D) => ClD m.length d.2) (fun _ _ q => q.2.cl) r
  | fz l => trivial
theorem Rl.cl (r : Rl K m S H) : ClS S.length S := fun o ho => by
  obtain ⟨n, e⟩ := List.mem_iff_getElem?.mp ho
  obtain ⟨a, _, q⟩ := r.adr e
  rw [← r.len]
  exact q.cl
theorem lv_drop {k : Nat} {T : Sto} (hk : S.length = k) (h : lv K (m.take k) S a) : lv K m (S ++ T) a := by
  rcases h with h | ⟨i, x, e1, e2, e3⟩
  · exact .inl h
  · have hi : i < k := by rw [← hk]; exact (List.getElem?_eq_some_iff.mp e2).1
    rw [List.getElem?_take_of_lt hi] at e1
    exact .inr ⟨i, x, e1, by rw [List.getElem?_append_left (by rw [hk]; exact hi)]; exact e2, e3⟩
theorem RD.drop {T : Sto} {d : D} {v : V} (h : RD K m (S ++ T) H d v) (c : ClD S.length d) : RD K (m.take S.length) S H d v := by
  cases d with
  | p d => exact RP.mono (fun _ _ q => q) (fun _ _ q nl => ⟨q, fun z => nl (lv_drop rfl z)⟩) d v h
  | scr _ => exact h
  | xc _ _ _ => exact h
  | ob n =>
    obtain ⟨a, e, rfl⟩ := h
    exact ⟨a, by rw [List.getElem?_take_of_lt c]; exact e, rfl⟩
theorem pairMonoIn {α β : Type} {F G : α → β → Prop} {l : List α} {r : List β} (h : ∀ a ∈ l, ∀ b, F a b → G a b) (q : Paired F l r) : Paired G l r := by
  induction q with
  | nil => exact .nil
  | cons a _ ih => exact .cons (h _ List.mem_cons_self _ a) (ih fun x hx => h x (List.mem_cons_of_mem _ hx))
theorem Rl.drop {T : Sto} (r : Rl K m (S ++ T) H) (c : ClS S.length S) : Rl K (m.take S.length) S H := by
  have hl : S.length ≤ m.length := by rw [r.len]; simp
  refine ⟨by rw [List.length_take]; omega, r.nd.sublist (List.take_sublist _ _), fun a h => ⟨fun z => (r.hid a h).1 (List.mem_of_mem_take z), (r.hid a h).2⟩, fun n a o em es => ?_⟩
  have hn : n < S.length := (List.getElem?_eq_some_iff.mp es).1
  rw [List.getElem?_take_of_lt hn] at em
  have q := r.obj n a o em (by rw [List.getElem?_append_left hn]; exact es)
  have co := c o (List.mem_of_getElem? es)
  cases o with
  | lst l =>
    obtain ⟨vs, h1, h2⟩ := q
    exact ⟨vs, h1, pairMonoIn (fun d hd v h => RD.drop h (co d hd)) h2⟩
  | dic l =>
    obtain ⟨vs, h1, h2⟩ := q
    exact ⟨vs, h1, pairMonoIn (fun d hd v h => ⟨h.1, RD.drop h.2 (co d hd)⟩) h2⟩
  | fz l =>
    obtain ⟨vs, h1, h2⟩ := q
    exact ⟨vs, h1, RPs.mono (fun _ _ q => q) (fun _ _ q nl => ⟨q, fun z => nl (lv_drop rfl z)⟩) l vs h2⟩
theorem Nx.drop {T : Sto} (x : Nx K m S H m' (S' ++ T) H') (r : Rl K m S H) (r' : Rl K m' (S' ++ T) H') (hl : S.length ≤ S'.length) : Nx K m S H (m'.take S'.length) S' H' := by
  refine ⟨x.tup, fun a vs h n => ?_, ?_, x.frz, x.xd, x.hid⟩
  · obtain ⟨h1, h2⟩ := x.lst a vs h n
    exact ⟨h1, fun z => h2 (lv_drop rfl z)⟩
  · obtain ⟨t, rfl⟩ := x.ext
    refine ⟨t.take (S'.length - m.length), ?_⟩
    rw [List.take_append]
    rw [List.take_of_length_le (by rw [r.len]; exact hl)]
end
end DL

namespace DL
open PySem PySem.Spec PyProof.Rows L2
/-! ### what a term computes -/
/-- a raised thing: its class by name, its fields -/
structure Xc where
  c : Str
  fs : List (Str × PyData)
inductive Rs (α : Type) where
  | st
  | ok (a : α) (S : Sto)
  | ex (x : Xc) (S : Sto)
def Rs.bind {α β : Type} (r : Rs α) (f : α → Sto → Rs β) : Rs β := match r with
  | .st => .st
  | .ok a S => f a S
  | .ex x S => .ex x S
abbrev ED := Env → Sto → Rs D
abbrev AD := Env → Sto → Rs (List D)
abbrev BD := Env → Sto → Rs Bool
inductive Out where
  | st
  | nx (ρ : Env) (S : Sto)
  | bk (ρ : Env) (S : Sto)
  | ct (ρ : Env) (S : Sto)
  | rt (d : D) (S : Sto)
  | ex (x : Xc) (ρ : Env) (S : Sto)
abbrev SD := Env → Sto → Out
def liftS {α : Type} (ρ : Env) (r : Rs α) (k : α → Sto → Out) : Out := match r with
  | .st => .st
  | .ok a S => k a S
  | .ex x S => .ex x ρ S
@[simp] theorem Rs.bind_ok {α β : Type} (a : α) (S : Sto) (f : α → Sto → Rs β) : Rs.bind (.ok a S) f = f a S := rfl
@[simp] theorem liftS_ok {α : Type} (ρ : Env) (a : α) (S : Sto) (k : α → Sto → Out) : liftS ρ (.ok a S) k = k a S := rfl

def RX (mg : Str → Option Value) (K : Kh) (L : Addr → Prop) (H : Hp) (x : Xc) (c : Value) (dd : Option Addr) : Prop :=
  mg x.c = some c ∧ ((x.fs = [] ∧ dd = none) ∨ ∃ a, dd = some a ∧ x.fs ≠ [] ∧ H a = some (.xd (sVs x.fs)))

abbrev KX (X : Cx) (κ : Addr → Prop) : Kh := ⟨X.K, κ⟩
def Post (X : Cx) (κ : Addr → Prop) (W : WX) (m : List Addr) (S : Sto) (H : Hp) (σ : St) {α β : Type} (R : List Addr → Sto → Hp → α → β → Prop) (r : Rs α) (Q : β → Hp → Prop) : Prop := match r with
  | .st => False
  | .ok d S' => ∀ v H' m', Nx (KX X κ) m S H m' S' H' → Rl (KX X κ) m' S' H' → R m' S' H' d v → Q v H'
  | .ex x S' => ∀ H' m' c dd, Nx (KX X κ) m S H m' S' H' → Rl (KX X κ) m' S' H' → RX X.mg (KX X κ) (lv (KX X κ) m' S') H' x c dd → W c dd σ H'
def PostS (X : Cx) (κ : Addr → Prop) (W : WX) (m : List Addr) (S : Sto) (H : Hp) (o : Out) (Dn : Ends) : Prop := match o with
  | .st => False
  | .nx ρ S' => ∀ σ' H' m', Nx (KX X κ) m S H m' S' H' → Rl (KX X κ) m' S' H' → RE (KX X κ) m' S' H' ρ σ' → Dn.nx σ' H'
  | .bk ρ S' => ∀ σ' H' m', Nx (KX X κ) m S H m' S' H' → Rl (KX X κ) m' S' H' → RE (KX X κ) m' S' H' ρ σ' → Dn.bk σ' H'
  | .ct ρ S' => ∀ σ' H' m', Nx (KX X κ) m S H m' S' H' → Rl (KX X κ) m' S' H' → RE (KX X κ) m' S' H' ρ σ' → Dn.ct σ' H'
  | .rt d S' => ∀ v H' m', Nx (KX X κ) m S H m' S' H' → Rl (KX X κ) m' S' H' → RD (KX X κ) m' S' H' d v → Dn.rt v H'
  | .ex x ρ S' => ∀ σ' H' m' c dd, Nx (KX X κ) m S H m' S' H' → Rl (KX X κ) m' S' H' → RE (KX X κ) m' S' H' ρ σ' → RX X.mg (KX X κ) (lv (KX X κ) m' S') H' x c dd → W c dd σ' H'
def Imp (X : Cx) (W : WX) {α β : Type} (R : Kh → List Addr → Sto → Hp → α → β → Prop) (t : St → Hp → (β → Hp → Prop) → Prop) (f : Env → Sto → Rs α) : Prop :=
  ∀ κ ρ S σ H m Q, Rl (KX X κ) m S H → RE (KX X κ) m S H ρ σ → Post X κ W m S H σ (R (KX X κ)) (f ρ S) Q → t σ H Q
def ImpS (X : Cx) (W : WX) (t : TS) (f : SD) : Prop :=
  ∀ κ ρ S σ H m Dn, Rl (KX X κ) m S H → RE (KX X κ) m S H ρ σ → PostS X κ W m S H (f ρ S) Dn → t Dn σ H
abbrev RB : Kh → List Addr → Sto → Hp → Bool → Bool → Prop := fun _ _ _ _ a b => a = b
structure DE (X : Cx) (W : WX) (e : Expr) (f : ED) : Prop where
  ex : ∃ t : TE, PE X e t ∧ Imp X W RD t f
structure DA (X : Cx) (W : WX) (es : List Expr) (f : AD) : Prop where
  ex : ∃ t : TA, PA X es t ∧ Imp X W RDs t f
structure DT (X : Cx) (W : WX) (e : Expr) (f : BD) : Prop where
  ex : ∃ t : TT, PT X e t ∧ Imp X W RB t f
structure DW (X : Cx) (W : WX) (e : Expr) (f : BD) : Prop where
  ex : ∃ t : TT, PW X e t ∧ Imp X W RB t f
structure DS (X : Cx) (W : WX) (st : Stmt) (f : SD) : Prop where
  ex : ∃ t : TS, PS X st t ∧ ImpS X W t f
structure DSs (X : Cx) (W : WX) (st : List Stmt) (f : SD) : Prop where
  ex : ∃ t : TS, PSs X st t ∧ ImpS X W t f

section
variable {X : Cx} {W : WX} {m m1 : List Addr} {S S1 : Sto} {H H1 : Hp} {σ : St} {α α' β β' : Type} {ρ : Env}
theorem Post.nx {R : List Addr → Sto → Hp → α → β → Prop} {r : Rs α} {Q : β → Hp → Prop} (x : Nx (KX X κ) m S H m1 S1 H1) (h : Post X κ W m S H σ R r Q) : Post X κ W m1 S1 H1 σ R r Q := by
  cases r with
  | st => exact h
  | ok d S' => exact fun v H' m' y rl r => h v H' m' (x.trans y) rl r
  | ex e S' => exact fun H' m' c dd y rl r => h H' m' c dd (x.trans y) rl r
theorem PostS.nx {o : Out} {Dn : Ends} (x : Nx (KX X κ) m S H m1 S1 H1) (h : PostS X κ W m S H o Dn) : PostS X κ W m1 S1 H1 o Dn := by
  cases o with
  | st => exact h
  | nx ρ S' => exact fun σ' H' m' y => h σ' H' m' (x.trans y)
  | bk ρ S' => exact fun σ' H' m' y => h σ' H' m' (x.trans y)
  | ct ρ S' => exact fun σ' H' m' y => h σ' H' m' (x.trans y)
  | rt ρ S' => exact fun σ' H' m' y => h σ' H' m' (x.trans y)
  | ex e ρ S' => exact fun σ' H' m' c dd y => h σ' H' m' c dd (x.trans y)
/-- one part behind another -/
theorem Imp.seq {Ra : Kh → List Addr → Sto → Hp → α → β → Prop} {Rb : List Addr → Sto → Hp → α' → β' → Prop} {ta : St → Hp → (β → Hp → Prop) → Prop} {fa : Env → Sto → Rs α} {k : α → Sto → Rs α'} {Q : β' → Hp → Prop} {C : β → Hp → Prop}
    (ha : Imp X W Ra ta fa) (rl : Rl (KX X κ) m S H) (re : RE (KX X κ) m S H ρ σ) (h : Post X κ W m S H σ Rb ((fa ρ S).bind k) Q)
    (hk : ∀ d S1 v H1 m1, Nx (KX X κ) m S H m1 S1 H1 → Rl (KX X κ) m1 S1 H1 → RE (KX X κ) m1 S1 H1 ρ σ → Ra (KX X κ) m1 S1 H1 d v → Post X κ W m1 S1 H1 σ Rb (k d S1) Q → C v H1) : ta σ H C := by
  refine ha κ ρ S σ H m C rl re ?_
  cases e : fa ρ S with
  | st => rw [e] at h; exact h
  | ok d S1 =>
    rw [e] at h
    exact fun v H1 m1 x rl1 r1 => hk d S1 v H1 m1 x rl1 (re.nx x) r1 (Post.nx x h)
  | ex y S1 =>
    rw [e] at h
    exact h
theorem Imp.seqS {Ra : Kh → List Addr → Sto → Hp → α → β → Prop} {ta : St → Hp → (β → Hp → Prop) → Prop} {fa : Env → Sto → Rs α} {k : α → Sto → Out} {Dn : Ends} {C : β → Hp → Prop}
    (ha : Imp X W Ra ta fa) (rl : Rl (KX X κ) m S H) (re : RE (KX X κ) m S H ρ σ) (h : PostS X κ W m S H (liftS ρ (fa ρ S) k) Dn)
    (hk : ∀ d S1 v H1 m1, Nx (KX X κ) m S H m1 S1 H1 → Rl (KX X κ) m1 S1 H1 → RE (KX X κ) m1 S1 H1 ρ σ → Ra (KX X κ) m1 S1 H1 d v → PostS X κ W m1 S1 H1 (k d S1) Dn → C v H1) : ta σ H C := by
  refine ha κ ρ S σ H m C rl re ?_
  cases e : fa ρ S with
  | st => rw [e] at h; exact h
  | ok d S1 =>
    rw [e] at h
    exact fun v H1 m1 x rl1 r1 => hk d S1 v H1 m1 x rl1 (re.nx x) r1 (PostS.nx x h)
  | ex y S1 =>
    rw [e] at h
    exact fun H' m' c dd x rl1 r1 => h σ H' m' c dd x rl1 (re.nx x) r1
theorem Post.ok' {R : List Addr → Sto → Hp → α → β → Prop} {a : α} {Q : β → Hp → Prop} (h : Post X κ W m S H σ R (.ok a S1) Q) {v : β} {H' : Hp} {m' : List Addr} (x : Nx (KX X κ) m S H m' S1 H') (r : Rl (KX X κ) m' S1 H') (q : R m' S1 H' a v) : Q v H' := h v H' m' x r q

/-! ### names, constants -/
def eVar (i : Nat) : ED := fun ρ S => match ρ[i]? with
  | some (some d) => .ok d S
  | _ => .st
def eC (d : PyData) : ED := fun _ S => .ok (.p d) S
theorem de_var {i : Nat} {x : Str} {pos : Pos} (hN : X.N[i]? = some x) (hv : Vis X.env.scope x) (hd : (x == ("__debug__" : Str)) = false := by decide) (hcd : (x == ("__classdict__" : Str)) = false := by decide) : DE X W (.Name x pos) (eVar i) := by
  refine ⟨tVar i, pe_var hN hv hd hcd, fun κ ρ S σ H m Q rl re h => ?_⟩
  unfold eVar at h
  split at h
  · rename_i d e
    obtain ⟨v, e1, q⟩ := pairGet re e
    obtain ⟨u, rfl, r⟩ := q d rfl
    exact ⟨u, e1, h.ok' .refl rl r⟩
  · exact h.elim
theorem de_int {i : Int} {j : Nat} {pos : Pos} : DE X W (.Constant (.int i) j pos) (eC (.int i)) :=
  ⟨_, pe_int, fun κ ρ S σ H m Q rl re h => h.ok' .refl rl (by show RP _ _ _ _ _; rw [RP])⟩
theorem de_bl {b : Bool} {j : Nat} {pos : Pos} : DE X W (.Constant (.bool b) j pos) (eC (.bool b)) :=
  ⟨_, pe_bl, fun κ ρ S σ H m Q rl re h => h.ok' .refl rl (by show RP _ _ _ _ _; rw [RP])⟩
theorem de_non {j : Nat} {pos : Pos} : DE X W (.Constant .none j pos) (eC .none) :=
  ⟨_, pe_non, fun κ ρ S σ H m Q rl re h => h.ok' .refl rl (by show RP _ _ _ _ _; rw [RP])⟩
theorem de_str {x : Str} {j : Nat} {pos : Pos} : DE X W (.Constant (.str x) j pos) (eC (.str x)) :=
  ⟨_, pe_str, fun κ ρ S σ H m Q rl re h => h.ok' .refl rl (by show RP _ _ _ _ _; rw [RP])⟩
/-! shapes of data -/
theorem RD.int {i : Int} {v : V} (h : RD (KX X κ) m S H (.int i) v) : v = .int i := by
  have h : RP _ _ _ _ _ := h
  rw [RP] at h; exact h
theorem RD.bl {i : Bool} {v : V} (h : RD (KX X κ) m S H (.bl i) v) : v = .bl i := by
  have h : RP _ _ _ _ _ := h
  rw [RP] at h; exact h
theorem RD.str {i : Str} {v : V} (h : RD (KX X κ) m S H (.str i) v) : v = .str i := by
  have h : RP _ _ _ _ _ := h
  rw [RP] at h; exact h
theorem RD.non {v : V} (h : RD (KX X κ) m S H .non v) : v = .non := by
  have h : RP _ _ _ _ _ := h
  rw [RP] at h; exact h
theorem RD.int_ {i : Int} : RD (KX X κ) m S H (.int i) (.int i) := by show RP _ _ _ _ _; rw [RP]
theorem RD.bl_ {i : Bool} : RD (KX X κ) m S H (.bl i) (.bl i) := by show RP _ _ _ _ _; rw [RP]
theorem RD.str_ {i : Str} : RD (KX X κ) m S H (.str i) (.str i) := by show RP _ _ _ _ _; rw [RP]
theorem RD.non_ : RD (KX X κ) m S H .non .non := by show RP _ _ _ _ _; rw [RP]
theorem RD.tup {l : List PyData} {v : V} (h : RD (KX X κ) m S H (.tup l) v) : ∃ a vs, v = .ref a ∧ SqT X.K H a vs ∧ RDs (KX X κ) m S H (l.map .p) vs := by
  have h : RP _ _ _ _ _ := h
  rw [RP] at h
  obtain ⟨a, vs, e, h1, h2⟩ := h
  exact ⟨a, vs, e, h1, RDs_p.mpr h2⟩
theorem RD.lst {l : List PyData} {v : V} (h : RD (KX X κ) m S H (.lst l) v) : ∃ a vs, v = .ref a ∧ H a = some (.lst vs) ∧ RDs (KX X κ) m S H (l.map .p) vs := by
  have h : RP _ _ _ _ _ := h
  rw [RP] at h
  obtain ⟨a, vs, e, h1, _, h2⟩ := h
  exact ⟨a, vs, e, h1, RDs_p.mpr h2⟩
/-- plain data of a thing -/
def pOf (S : Sto) : D → Option PyData
  | .p d => some d
  | _ => none
def pAll : List D → Option (List PyData)
  | [] => some []
  | .p d :: l => (pAll l).map (d :: ·)
  | _ :: _ => none
theorem pAll_map : ∀ l : List PyData, pAll (l.map .p) = some l
  | [] => rfl
  | d :: l => by simp [pAll, pAll_map l]
theorem pAll_some : ∀ {l : List D} {r : List PyData}, pAll l = some r → l = r.map .p
  | [], r, h => by simp [pAll] at h; subst h; rfl
  | .p d :: l, r, h => by
    simp only [pAll, Option.map_eq_some_iff] at h
    obtain ⟨r', h1, rfl⟩ := h
    rw [pAll_some h1]
    rfl
  | .ob _ :: _, r, h => by simp [pAll] at h
  | .scr _ :: _, r, h => by simp [pAll] at h
  | .xc _ _ _ :: _, r, h => by simp [pAll] at h
/-- the items of a list that is read -/
def lItems (S : Sto) : D → Option (List D)
  | .p (.list l) => some (l.map .p)
  | .ob n => match S[n]? with
    | some (.lst l) => some l
    | some (.fz l) => some (l.map .p)
    | _ => none
  | .scr ns => some (ns.map .int)
  | _ => none
def tItems : D → Option (List D)
  | .p (.tuple l) => some (l.map .p)
  | _ => none
theorem RDs_ints : ∀ ns : List Int, RDs (KX X κ) m S H (ns.map D.int) (ns.map V.int)
  | [] => .nil
  | i :: ns => .cons RD.int_ (RDs_ints ns)
theorem RD.items {d : D} {v : V} {l : List D} (r : Rl (KX X κ) m S H) (h : RD (KX X κ) m S H d v) (e : lItems S d = some l) : ∃ a vs, v = .ref a ∧ SqL X.K H a vs ∧ RDs (KX X κ) m S H l vs := by
  unfold lItems at e
  split at e
  · cases e
    obtain ⟨a, vs, rfl, h1, h2⟩ := h.lst
    exact ⟨a, vs, rfl, .of h1, h2⟩
  · rename_i n
    obtain ⟨a, em, rfl⟩ := h
    obtain ⟨o, es, ro⟩ := r.at em
    split at e
    · rename_i q
      rw [q] at es; cases es; cases e
      obtain ⟨vs, h1, h2⟩ := ro
      exact ⟨a, vs, rfl, .of h1, h2⟩
    · rename_i q
      rw [q] at es; cases es; cases e
      obtain ⟨vs, h1, h2⟩ := ro
      exact ⟨a, vs, rfl, .of h1, RDs_p.mpr h2⟩
    · cases e
  · rename_i ns
    cases e
    obtain ⟨a, rfl, h⟩ := h
    refine ⟨a, ns.map V.int, rfl, ?_, RDs_ints ns⟩
    rcases h with ⟨o, h⟩ | h
    · exact .inl (.inr ⟨o, h⟩)
    · rcases h with h | h
      · rcases h with h | ⟨_, h⟩ <;> cases h
      · exact .inr h
  · cases e
theorem RD.titems {d : D} {v : V} {l : List D} (h : RD (KX X κ) m S H d v) (e : tItems d = some l) : ∃ a vs, v = .ref a ∧ SqT X.K H a vs ∧ RDs (KX X κ) m S H l vs := by
  unfold tItems at e
  split at e
  · cases e
    exact h.tup
  · cases e
end
end DL

namespace DL
open PySem PySem.Spec PyProof.Rows L2
section
variable {X : Cx} {W : WX} {m m1 : List Addr} {S S1 : Sto} {H H1 : Hp} {σ : St} {ρ : Env} {κ : Addr → Prop}
/-! ### new things -/
theorem not_lv (r : Rl (KX X κ) m S H) {p : Addr} (hp : H p = none) : ¬ lv (KX X κ) m S p := fun z => by
  obtain ⟨u, q, _⟩ := lvAddr r z
  rw [hp] at q; cases q
theorem newL (r : Rl (KX X κ) m S H) {p : Addr} (hp : H p = none) {l : List PyData} {vs : List V} (h : RPs (KX X κ) H (lv (KX X κ) m S) l vs) : RD (KX X κ) m S (upd H p (.lst vs)) (.lst l) (.ref p) := by
  show RP _ _ _ _ _
  rw [RP]
  exact ⟨p, vs, rfl, upd_same, not_lv r hp, RPs.nx (Nx.new r hp) h⟩
theorem newT (r : Rl (KX X κ) m S H) {p : Addr} (hp : H p = none) {l : List PyData} {vs : List V} (h : RPs (KX X κ) H (lv (KX X κ) m S) l vs) : RD (KX X κ) m S (upd H p (.tup vs)) (.tup l) (.ref p) := by
  show RP _ _ _ _ _
  rw [RP]
  exact ⟨p, vs, rfl, .of upd_same, RPs.nx (Nx.new r hp) h⟩
theorem RDs_all {ds : List D} {l : List PyData} {vs : List V} (h : RDs (KX X κ) m S H ds vs) (e : pAll ds = some l) : RPs (KX X κ) H (lv (KX X κ) m S) l vs := by
  rw [pAll_some e] at h
  exact RDs_p.mp h
theorem RPs_app {l l' : List PyData} {vs vs' : List V} {L : Addr → Prop} (h : RPs (KX X κ) H L l vs) (h' : RPs (KX X κ) H L l' vs') : RPs (KX X κ) H L (l ++ l') (vs ++ vs') :=
  RPs_iff.mpr (pairApp (RPs_iff.mp h) (RPs_iff.mp h'))
theorem RPs_len {l : List PyData} {vs : List V} {L : Addr → Prop} (h : RPs (KX X κ) H L l vs) : l.length = vs.length := pairLen (RPs_iff.mp h)
/-- a list at rest or one that could rest -/
def vList (S : Sto) : D → Option (List PyData)
  | .p (.list l) => some l
  | .ob n => match S[n]? with
    | some (.lst l) => pAll l
    | some (.fz l) => some l
    | _ => none
  | _ => none
theorem RD.vlist {d : D} {v : V} {l : List PyData} (r : Rl (KX X κ) m S H) (h : RD (KX X κ) m S H d v) (e : vList S d = some l) : ∃ a vs, v = .ref a ∧ H a = some (.lst vs) ∧ RPs (KX X κ) H (lv (KX X κ) m S) l vs := by
  unfold vList at e
  split at e
  · cases e
    obtain ⟨a, vs, rfl, h1, h2⟩ := h.lst
    exact ⟨a, vs, rfl, h1, RDs_p.mp h2⟩
  · rename_i n
    obtain ⟨a, em, rfl⟩ := h
    obtain ⟨o, es, ro⟩ := r.at em
    split at e
    · rename_i q
      rw [q] at es; cases es
      obtain ⟨vs, h1, h2⟩ := ro
      exact ⟨a, vs, rfl, h1, RDs_all h2 e⟩
    · rename_i q
      rw [q] at es; cases es; cases e
      obtain ⟨vs, h1, h2⟩ := ro
      exact ⟨a, vs, rfl, h1, h2⟩
    · cases e
  · cases e

/-! ### operators by values -/
def OpD (X : Cx) (W : WX) (f : Value → Value → Sem Value) (g : D → D → Sto → Rs D) : Prop :=
  ∃ r : R2, OpR X f r ∧ ∀ κ x y vx vy m S H σ Q, Rl (KX X κ) m S H → RD (KX X κ) m S H x vx → RD (KX X κ) m S H y vy → Post X κ W m S H σ (RD (KX X κ)) (g x y S) Q → r vx vy H Q
def eBin (g : D → D → Sto → Rs D) (fa fb : ED) : ED := fun ρ S => (fa ρ S).bind fun x S1 => (fb ρ S1).bind fun y S2 => g x y S2
theorem imp_bin {g : D → D → Sto → Rs D} {r : R2} {ta tb : TE} {fa fb : ED} (hr : ∀ κ x y vx vy m S H σ Q, Rl (KX X κ) m S H → RD (KX X κ) m S H x vx → RD (KX X κ) m S H y vy → Post X κ W m S H σ (RD (KX X κ)) (g x y S) Q → r vx vy H Q)
    (ha : Imp X W RD ta fa) (hb : Imp X W RD tb fb) : Imp X W RD (tOp r ta tb) (eBin g fa fb) := by
  intro κ ρ S σ H m Q rl re h
  refine ha.seq rl re h fun d S1 v H1 m1 x1 rl1 re1 r1 h1 => ?_
  refine hb.seq rl1 re1 h1 fun d2 S2 v2 H2 m2 x2 rl2 re2 r2 h2 => ?_
  exact hr κ d d2 v v2 m2 S2 H2 σ Q rl2 (r1.nx x2) r2 h2
theorem de_bin {op : Operator} {a b : Expr} {pos : Pos} {g : D → D → Sto → Rs D} {fa fb : ED} (ho : OpD X W (binaryOp op) g) (ha : DE X W a fa) (hb : DE X W b fb) : DE X W (.BinOp a op b pos) (eBin g fa fb) := by
  obtain ⟨r, o, hr⟩ := ho
  obtain ⟨ta, pa, ia⟩ := ha
  obtain ⟨tb, pb, ib⟩ := hb
  exact ⟨_, pe_op o pa pb, imp_bin hr ia ib⟩

def gAdd : D → D → Sto → Rs D := fun x y S => match x, y with
  | .p (.int i), .p (.int j) => .ok (.int (i + j)) S
  | .p (.str a), .p (.str b) => if a.length + b.length ≤ sizeLine then .ok (.str (a ++ b)) S else .st
  | .p (.tuple a), .p (.tuple b) => if a.length + b.length ≤ sizeLine then .ok (.tup (a ++ b)) S else .st
  | x, y => match vList S x, vList S y with
    | some a, some b => if a.length + b.length ≤ sizeLine then .ok (.lst (a ++ b)) S else .st
    | _, _ => .st
theorem RD.tup' {l : List PyData} {v : V} (h : RD (KX X κ) m S H (.tup l) v) : ∃ a vs, v = .ref a ∧ SqT X.K H a vs ∧ RPs (KX X κ) H (lv (KX X κ) m S) l vs := by
  obtain ⟨a, vs, e, h1, h2⟩ := h.tup
  exact ⟨a, vs, e, h1, RDs_p.mp h2⟩
theorem RPs_nil {l : List PyData} {vs : List V} {L : Addr → Prop} (h : RPs (KX X κ) H L l vs) : vs = [] ↔ l = [] := by
  have := RPs_len h
  constructor
  · rintro rfl; exact List.length_eq_zero_iff.mp this
  · rintro rfl; exact List.length_eq_zero_iff.mp this.symm
theorem tup_of {l : List PyData} {a : Addr} {vs : List V} (h : SqT X.K H a vs) (h2 : RPs (KX X κ) H (lv (KX X κ) m S) l vs) : RD (KX X κ) m S H (.tup l) (.ref a) := by
  show RP _ _ _ _ _
  rw [RP]
  exact ⟨a, vs, rfl, h, h2⟩
theorem od_add : OpD X W (binaryOp .Add) gAdd := by
  refine ⟨_, OpR.or op_add (OpR.or op_add_str (OpR.or op_catA op_cat)), fun κ x y vx vy m S H σ Q rl rx ry h => ?_⟩
  unfold gAdd at h
  split at h
  · exact .inl ⟨_, _, rx.int, ry.int, h.ok' .refl rl RD.int_⟩
  · split at h
    · rename_i hl
      exact .inr (.inl ⟨_, _, rx.str, ry.str, hl, h.ok' .refl rl RD.str_⟩)
    · exact h.elim
  · rename_i a b
    split at h
    · rename_i hl
      obtain ⟨p, xs, rfl, hx, rx⟩ := rx.tup'
      obtain ⟨q, ys, rfl, hy, ry⟩ := ry.tup'
      refine .inr (.inr (.inl ⟨p, q, xs, ys, rfl, rfl, hx, hy, by rw [← RPs_len rx, ← RPs_len ry]; exact hl, fun e => ?_, fun e1 e2 => ?_, fun _ _ z hz => ?_⟩))
      · have : a = [] := (RPs_nil rx).mp e
        subst this
        exact h.ok' .refl rl (tup_of hy ry)
      · have : b = [] := (RPs_nil ry).mp e2
        subst this
        rw [List.append_nil] at h
        exact h.ok' .refl rl (tup_of hx rx)
      · exact h.ok' (.new rl hz) (rl.new hz) (newT rl hz (RPs_app rx ry))
    · exact h.elim
  · split at h
    · rename_i a b ea eb
      split at h
      · rename_i hl
        obtain ⟨p, xs, rfl, hx, rx⟩ := rx.vlist rl ea
        obtain ⟨q, ys, rfl, hy, ry⟩ := ry.vlist rl eb
        exact .inr (.inr (.inr ⟨p, q, xs, ys, rfl, rfl, hx, hy, by rw [← RPs_len rx, ← RPs_len ry]; exact hl, fun z hz => h.ok' (.new rl hz) (rl.new hz) (newL rl hz (RPs_app rx ry))⟩))
      · exact h.elim
    · exact h.elim
/-- two ints -/
def gInt (C : Int → Int → Bool) (f : Int → Int → Int) : D → D → Sto → Rs D := fun x y S => match x, y with
  | .p (.int i), .p (.int j) => if C i j = true then .ok (.int (f i j)) S else .st
  | _, _ => .st
theorem od_int {op : Value → Value → Sem Value} {C : Int → Int → Prop} {f : Int → Int → Int} {c : Int → Int → Bool} (h : OpR X op (rI C fun i j => .int (f i j))) (hc : ∀ i j, c i j = true → C i j) : OpD X W op (gInt c f) := by
  refine ⟨_, h, fun κ x y vx vy m S H σ Q rl rx ry h => ?_⟩
  unfold gInt at h
  split at h
  · split at h
    · rename_i e
      exact ⟨_, _, rx.int, ry.int, hc _ _ e, h.ok' .refl rl RD.int_⟩
    · exact h.elim
  · exact h.elim
def gSub : D → D → Sto → Rs D := gInt (fun _ _ => true) fun i j => i - j
def gMul : D → D → Sto → Rs D := gInt (fun i j => decide (i.natAbs < 2 ^ 64) || decide (j.natAbs < 2 ^ 64)) fun i j => i * j
def gMod : D → D → Sto → Rs D := gInt (fun _ j => decide (0 < j)) fun i j => i % j
def gFdv : D → D → Sto → Rs D := gInt (fun _ j => decide (0 < j ∧ j < 1073741824)) fun i j => i / j
def gPow : D → D → Sto → Rs D := gInt (fun i j => decide (0 ≤ j ∧ j ≤ 1000000 ∧ i.natAbs < 2 ^ 64)) fun i j => i ^ j.toNat
theorem od_sub : OpD X W (binaryOp .Sub) gSub := by
  refine ⟨_, op_sub, fun κ x y vx vy m S H σ Q rl rx ry h => ?_⟩
  unfold gSub gInt at h
  split at h
  · rw [if_pos rfl] at h
    exact ⟨_, _, rx.int, ry.int, h.ok' .refl rl RD.int_⟩
  · exact h.elim
theorem od_mul : OpD X W (binaryOp .Mult) gMul := od_int op_mul fun i j h => by
  simp only [Bool.or_eq_true, decide_eq_true_eq] at h
  rcases h with h | h
  · exact .inl ⟨by omega, by omega⟩
  · exact .inr ⟨by omega, by omega⟩
theorem od_mod : OpD X W (binaryOp .Mod) gMod := od_int op_mod fun i j h => of_decide_eq_true h
theorem od_fdv : OpD X W (binaryOp .FloorDiv) gFdv := od_int op_fdiv fun i j h => (of_decide_eq_true h : 0 < j ∧ j < 1073741824)
theorem od_pow : OpD X W (binaryOp .Pow) gPow := od_int op_pow fun i j h => (of_decide_eq_true h : 0 ≤ j ∧ j ≤ 1000000 ∧ i.natAbs < 2 ^ 64)
/-- -x -/
def eNeg (fa : ED) : ED := fun ρ S => (fa ρ S).bind fun x S1 => match x with
  | .p (.int i) => .ok (.int (-i)) S1
  | _ => .st
theorem de_neg {a : Expr} {pos : Pos} {fa : ED} (ha : DE X W a fa) : DE X W (.UnaryOp .USub a pos) (eNeg fa) := by
  obtain ⟨ta, pa, ia⟩ := ha
  refine ⟨_, pe_un un_neg pa, fun κ ρ S σ H m Q rl re h => ?_⟩
  refine ia.seq rl re h fun d S1 v H1 m1 x1 rl1 re1 r1 h1 => ?_
  split at h1
  · exact ⟨_, r1.int, h1.ok' .refl rl1 RD.int_⟩
  · exact h1.elim

/-! ### comparisons -/
def scalD : PyData → PyData → Bool
  | .none, .none => true | .none, .int _ => true | .int _, .none => true | .none, .bool _ => true | .bool _, .none => true | .none, .str _ => true | .str _, .none => true
  | .int _, .int _ => true | .bool _, .bool _ => true | .str _, .str _ => true
  | .int _, .str _ => true | .str _, .int _ => true | .bool _, .str _ => true | .str _, .bool _ => true
  | _, _ => false
/-- what a thing is as plain data, as it stands -/
def pNow (S : Sto) : D → Option PyData
  | .p d => some d
  | x => (vList S x).map .list
theorem RD.now {d : D} {v : V} {p : PyData} (r : Rl (KX X κ) m S H) (h : RD (KX X κ) m S H d v) (e : pNow S d = some p) : Dp X.K H v p := by
  unfold pNow at e
  split at e
  · cases e; exact RP.dp _ _ h
  · simp only [Option.map_eq_some_iff] at e
    obtain ⟨l, e, rfl⟩ := e
    obtain ⟨a, vs, rfl, h1, h2⟩ := h.vlist r e
    exact .lst (.of h1) (RPs.dp _ _ h2)
def gEq (neg : Bool) : D → D → Sto → Rs D := fun x y S => match pNow S x, pNow S y with
  | some a, some b => if scalD a b = true then .ok (.bl (neg ^^ PyData.eqv a b)) S else
      if SeqAt.shaped a = true ∧ SeqAt.shaped b = true then .ok (.bl (neg ^^ PyData.eqv a b)) S else .st
  | _, _ => .st
theorem scal_now {a b : PyData} {va vb : V} (ha : Dp X.K H va a) (hb : Dp X.K H vb b) (h : scalD a b = true) : scal va vb = true ∧ decide (va = vb) = PyData.eqv a b := by
  cases ha <;> cases hb <;> first
    | (exact absurd (show false = true from h) Bool.false_ne_true)
    | (refine ⟨rfl, ?_⟩; simp [PyData.eqv, Bool.beq_eq_decide_eq]; done)
    | (refine ⟨rfl, ?_⟩; simp only [PyData.eqv]; rw [Bool.eq_iff_iff]; simp)
theorem od_eq (hu : X.A.units + 64 < cLine) : OpD X W (compareOp .Eq) (gEq false) := by
  refine ⟨_, OpR.or op_eq (op_eqD hu), fun κ x y vx vy m S H σ Q rl rx ry h => ?_⟩
  unfold gEq at h
  split at h
  · rename_i a b ea eb
    have da := rx.now rl ea
    have db := ry.now rl eb
    split at h
    · rename_i e
      obtain ⟨h1, h2⟩ := scal_now da db e
      exact .inl ⟨h1, by rw [h2]; exact h.ok' .refl rl (by rw [Bool.false_xor]; exact RD.bl_)⟩
    · split at h
      · rename_i e
        exact .inr ⟨a, b, da, db, e.1, e.2, h.ok' .refl rl (by rw [Bool.false_xor]; exact RD.bl_)⟩
      · exact h.elim
  · exact h.elim
theorem od_ne (hu : X.A.units + 64 < cLine) : OpD X W (compareOp .NotEq) (gEq true) := by
  refine ⟨_, OpR.or op_ne (op_neD hu), fun κ x y vx vy m S H σ Q rl rx ry h => ?_⟩
  unfold gEq at h
  split at h
  · rename_i a b ea eb
    have da := rx.now rl ea
    have db := ry.now rl eb
    split at h
    · rename_i e
      obtain ⟨h1, h2⟩ := scal_now da db e
      exact .inl ⟨h1, by rw [h2]; exact h.ok' .refl rl (by rw [Bool.true_xor]; exact RD.bl_)⟩
    · split at h
      · rename_i e
        exact .inr ⟨a, b, da, db, e.1, e.2, h.ok' .refl rl (by rw [Bool.true_xor]; exact RD.bl_)⟩
      · exact h.elim
  · exact h.elim
/-- two ints (or flat tuples of ints), in order -/
def intsOf : List PyData → Option (List Int)
  | [] => some []
  | .int i :: l => (intsOf l).map (i :: ·)
  | _ :: _ => none
def gOrd (f : Int → Int → Bool) (g : List Int → List Int → Bool) : D → D → Sto → Rs D := fun x y S => match x, y with
  | .p (.int i), .p (.int j) => .ok (.bl (f i j)) S
  | .p (.tuple a), .p (.tuple b) => match intsOf a, intsOf b with
    | some is, some js => .ok (.bl (g is js)) S
    | _, _ => .st
  | _, _ => .st
def gOrd0 (f : Int → Int → Bool) : D → D → Sto → Rs D := fun x y S => match x, y with
  | .p (.int i), .p (.int j) => .ok (.bl (f i j)) S
  | _, _ => .st
theorem od_ord0 {op : Value → Value → Sem Value} {f : Int → Int → Bool} (h : OpR X op (rI0 fun i j => .bl (f i j))) : OpD X W op (gOrd0 f) := by
  refine ⟨_, h, fun κ x y vx vy m S H σ Q rl rx ry h => ?_⟩
  unfold gOrd0 at h
  split at h
  · exact ⟨_, _, rx.int, ry.int, h.ok' .refl rl RD.bl_⟩
  · exact h.elim
def gLt := gOrd0 fun i j => decide (i < j)
def gLe := gOrd0 fun i j => decide (i ≤ j)
def gGt := gOrd0 fun i j => decide (j < i)
def gGe := gOrd0 fun i j => decide (j ≤ i)
theorem od_lt : OpD X W (compareOp .Lt) gLt := od_ord0 op_lt
theorem od_le : OpD X W (compareOp .LtE) gLe := od_ord0 op_le
theorem od_gt : OpD X W (compareOp .Gt) gGt := od_ord0 op_gt
theorem od_ge : OpD X W (compareOp .GtE) gGe := od_ord0 op_ge
/-- is None -/
def isNoneD : PyData → Bool
  | .none => true
  | _ => false
def gIsN (neg : Bool) : D → D → Sto → Rs D := fun x y S => match x, y with
  | .p a, .p .none => .ok (.bl (neg ^^ isNoneD a)) S
  | _, _ => .st
theorem isN_of {a : PyData} {v : V} (h : RD (KX X κ) m S H (.p a) v) : decide (v = .non) = isNoneD a := by
  have h := RP.dp _ _ h
  cases h <;> simp [isNoneD]
theorem od_is : OpD X W (compareOp .Is) (gIsN false) := by
  refine ⟨_, op_isN, fun κ x y vx vy m S H σ Q rl rx ry h => ?_⟩
  unfold gIsN at h
  split at h
  · exact ⟨ry.non, by rw [isN_of rx]; exact h.ok' .refl rl (by rw [Bool.false_xor]; exact RD.bl_)⟩
  · exact h.elim
theorem od_isnot : OpD X W (compareOp .IsNot) (gIsN true) := by
  refine ⟨_, op_notN, fun κ x y vx vy m S H σ Q rl rx ry h => ?_⟩
  unfold gIsN at h
  split at h
  · exact ⟨ry.non, by rw [isN_of rx]; exact h.ok' .refl rl (by rw [Bool.true_xor]; exact RD.bl_)⟩
  · exact h.elim
theorem de_cmp {op : CmpOp} {a b : Expr} {pos : Pos} {g : D → D → Sto → Rs D} {fa fb : ED} (ho : OpD X W (compareOp op) g) (ha : DE X W a fa) (hb : DE X W b fb) (hm : behindInMarks op b = false) : DE X W (.Compare a [op] [b] pos) (eBin g fa fb) := by
  obtain ⟨r, o, hr⟩ := ho
  obtain ⟨ta, pa, ia⟩ := ha
  obtain ⟨tb, pb, ib⟩ := hb
  exact ⟨_, pe_cmpR o pa pb hm, imp_bin hr ia ib⟩
/-- a bool value as a test -/
def asB (f : ED) : BD := fun ρ S => (f ρ S).bind fun x S1 => match x with
  | .p (.bool b) => .ok b S1
  | _ => .st
theorem imp_asB {t : TE} {f : ED} (h : Imp X W RD t f) : Imp X W RB (fun σ H (Q : Bool → Hp → Prop) => t σ H fun x H1 => ∃ k, x = .bl k ∧ Q k H1) (asB f) := by
  intro κ ρ S σ H m Q rl re hh
  refine h.seq rl re hh fun d S1 v H1 m1 x1 rl1 re1 r1 h1 => ?_
  split at h1
  · exact ⟨_, r1.bl, h1.ok' .refl rl1 rfl⟩
  · exact h1.elim
theorem dt_cmp {op : CmpOp} {a b : Expr} {pos : Pos} {g : D → D → Sto → Rs D} {fa fb : ED} (ho : OpD X W (compareOp op) g) (ha : DE X W a fa) (hb : DE X W b fb) (hm : behindInMarks op b = false) : DT X W (.Compare a [op] [b] pos) (asB (eBin g fa fb)) := by
  obtain ⟨r, o, hr⟩ := ho
  obtain ⟨ta, pa, ia⟩ := ha
  obtain ⟨tb, pb, ib⟩ := hb
  exact ⟨_, pt_cmpR o pa pb hm, imp_asB (imp_bin hr ia ib)⟩
def eChain (g g' : D → D → Sto → Rs D) (fa fb fc : ED) : ED := fun ρ S => (fa ρ S).bind fun x S1 => (fb ρ S1).bind fun y S2 => (g x y S2).bind fun z S3 => match z with
  | .p (.bool true) => (fc ρ S3).bind fun w S4 => g' y w S4
  | .p (.bool false) => .ok (.bl false) S3
  | _ => .st
theorem Post.seq' {r : R2} {g : D → D → Sto → Rs D} {x y : D} {vx vy : V} {k : D → Sto → Rs D} {Q : VK} {C : VK}
    (hr : ∀ Q, Post X κ W m S H σ (RD (KX X κ)) (g x y S) Q → r vx vy H Q) (re : RE (KX X κ) m S H ρ σ) (h : Post X κ W m S H σ (RD (KX X κ)) ((g x y S).bind k) Q)
    (hk : ∀ d S1 v H1 m1, Nx (KX X κ) m S H m1 S1 H1 → Rl (KX X κ) m1 S1 H1 → RE (KX X κ) m1 S1 H1 ρ σ → RD (KX X κ) m1 S1 H1 d v → Post X κ W m1 S1 H1 σ (RD (KX X κ)) (k d S1) Q → C v H1) : r vx vy H C := by
  refine hr C ?_
  cases e : g x y S with
  | st => rw [e] at h; exact h
  | ok d S1 =>
    rw [e] at h
    exact fun v H1 m1 x rl1 r1 => hk d S1 v H1 m1 x rl1 (re.nx x) r1 (Post.nx x h)
  | ex y S1 =>
    rw [e] at h
    exact h
theorem imp_chain {g g' : D → D → Sto → Rs D} {r r' : R2} {ta tb tc : TE} {fa fb fc : ED} (hr : ∀ κ x y vx vy m S H σ Q, Rl (KX X κ) m S H → RD (KX X κ) m S H x vx → RD (KX X κ) m S H y vy → Post X κ W m S H σ (RD (KX X κ)) (g x y S) Q → r vx vy H Q)
    (hr' : ∀ κ x y vx vy m S H σ Q, Rl (KX X κ) m S H → RD (KX X κ) m S H x vx → RD (KX X κ) m S H y vy → Post X κ W m S H σ (RD (KX X κ)) (g' x y S) Q → r' vx vy H Q)
    (ha : Imp X W RD ta fa) (hb : Imp X W RD tb fb) (hc : Imp X W RD tc fc) : Imp X W RD (tChain r r' ta tb tc) (eChain g g' fa fb fc) := by
  intro κ ρ S σ H m Q rl re h
  refine ha.seq rl re h fun d S1 v H1 m1 x1 rl1 re1 r1 h1 => ?_
  refine hb.seq rl1 re1 h1 fun d2 S2 v2 H2 m2 x2 rl2 re2 r2 h2 => ?_
  refine Post.seq' (fun Q h => hr κ d d2 v v2 m2 S2 H2 σ Q rl2 (r1.nx x2) r2 h) re2 h2 fun d3 S3 v3 H3 m3 x3 rl3 re3 r3 h3 => ?_
  split at h3
  · refine ⟨true, r3.bl, ?_⟩
    rw [if_pos rfl]
    refine hc.seq rl3 re3 h3 fun d4 S4 v4 H4 m4 x4 rl4 re4 r4 h4 => ?_
    exact hr' κ d2 d4 v2 v4 m4 S4 H4 σ Q rl4 ((r2.nx x3).nx x4) r4 h4
  · refine ⟨false, r3.bl, ?_⟩
    rw [if_neg Bool.false_ne_true]
    exact h3.ok' .refl rl3 RD.bl_
  · exact h3.elim
theorem de_chain {op op' : CmpOp} {a b c : Expr} {pos : Pos} {g g' : D → D → Sto → Rs D} {fa fb fc : ED} (ho : OpD X W (compareOp op) g) (ho' : OpD X W (compareOp op') g') (ha : DE X W a fa) (hb : DE X W b fb) (hc : DE X W c fc) (hl : lastMarks [op, op'] [b, c] = false := by rfl) :
    DE X W (.Compare a [op, op'] [b, c] pos) (eChain g g' fa fb fc) := by
  obtain ⟨r, o, hr⟩ := ho
  obtain ⟨r', o', hr'⟩ := ho'
  obtain ⟨ta, pa, ia⟩ := ha
  obtain ⟨tb, pb, ib⟩ := hb
  obtain ⟨tc, pc, ic⟩ := hc
  exact ⟨_, pe_chain o o' pa pb pc hl, imp_chain hr hr' ia ib ic⟩
theorem dt_chain {op op' : CmpOp} {a b c : Expr} {pos : Pos} {g g' : D → D → Sto → Rs D} {fa fb fc : ED} (ho : OpD X W (compareOp op) g) (ho' : OpD X W (compareOp op') g') (ha : DE X W a fa) (hb : DE X W b fb) (hc : DE X W c fc) (hl : lastMarks [op, op'] [b, c] = false := by rfl) :
    DT X W (.Compare a [op, op'] [b, c] pos) (asB (eChain g g' fa fb fc)) := by
  obtain ⟨r, o, hr⟩ := ho
  obtain ⟨r', o', hr'⟩ := ho'
  obtain ⟨ta, pa, ia⟩ := ha
  obtain ⟨tb, pb, ib⟩ := hb
  obtain ⟨tc, pc, ic⟩ := hc
  exact ⟨_, pt_chain o o' pa pb pc hl, imp_asB (imp_chain hr hr' ia ib ic)⟩
end
end DL

namespace DL
open PySem PySem.Spec PyProof.Rows L2
section
variable {X : Cx} {W : WX} {m m1 : List Addr} {S S1 : Sto} {H H1 : Hp} {σ : St} {ρ : Env} {κ : Addr → Prop}
/-! ### and, or, not, a if c else b -/
variable {a b c : Expr} {pos : Pos} {fa fb fc : ED} {ba bb : BD} {rest : List Expr}
def bAnd (f g : BD) : BD := fun ρ S => (f ρ S).bind fun x S1 => if x = true then g ρ S1 else .ok false S1
def bOr (f g : BD) : BD := fun ρ S => (f ρ S).bind fun x S1 => if x = true then .ok true S1 else g ρ S1
def bNot (f : BD) : BD := fun ρ S => (f ρ S).bind fun x S1 => .ok (!x) S1
theorem DW.pt (h : DW X W a ba) : DT X W a ba := by
  obtain ⟨t, p, i⟩ := h
  exact ⟨t, p.pt, i⟩
theorem dw_and1 (ha : DT X W a ba) : DW X W (.BoolOp .And [a] pos) ba := by
  obtain ⟨t, p, i⟩ := ha
  exact ⟨t, pw_and1 p, i⟩
theorem dw_or1 (ha : DT X W a ba) : DW X W (.BoolOp .Or [a] pos) ba := by
  obtain ⟨t, p, i⟩ := ha
  exact ⟨t, pw_or1 p, i⟩
theorem dw_and (ha : DT X W a ba) (hb : DW X W (.BoolOp .And (b :: rest) pos) bb) : DW X W (.BoolOp .And (a :: b :: rest) pos) (bAnd ba bb) := by
  obtain ⟨ta, pa, ia⟩ := ha
  obtain ⟨tb, pb, ib⟩ := hb
  refine ⟨_, pw_and pa pb, fun κ ρ S σ H m Q rl re h => ?_⟩
  refine ia.seq rl re h fun d S1 v H1 m1 x1 rl1 re1 r1 h1 => ?_
  have r1 : d = v := r1
  subst r1
  cases d with
  | true => exact ib κ ρ S1 σ H1 m1 Q rl1 re1 h1
  | false => exact h1.ok' .refl rl1 rfl
theorem dw_or (ha : DT X W a ba) (hb : DW X W (.BoolOp .Or (b :: rest) pos) bb) : DW X W (.BoolOp .Or (a :: b :: rest) pos) (bOr ba bb) := by
  obtain ⟨ta, pa, ia⟩ := ha
  obtain ⟨tb, pb, ib⟩ := hb
  refine ⟨_, pw_or pa pb, fun κ ρ S σ H m Q rl re h => ?_⟩
  refine ia.seq rl re h fun d S1 v H1 m1 x1 rl1 re1 r1 h1 => ?_
  have r1 : d = v := r1
  subst r1
  cases d with
  | false => exact ib κ ρ S1 σ H1 m1 Q rl1 re1 h1
  | true => exact h1.ok' .refl rl1 rfl
theorem dt_not (ha : DT X W a ba) : DT X W (.UnaryOp .Not a pos) (bNot ba) := by
  obtain ⟨ta, pa, ia⟩ := ha
  refine ⟨_, pt_not pa, fun κ ρ S σ H m Q rl re h => ?_⟩
  refine ia.seq rl re h fun d S1 v H1 m1 x1 rl1 re1 r1 h1 => ?_
  have r1 : d = v := r1
  subst r1
  exact h1.ok' .refl rl1 rfl
/-- a thing's truth -/
def truD (S : Sto) : D → Option Bool
  | .p .none => some false
  | .p (.bool b) => some b
  | .p (.int i) => some (i != 0)
  | .p (.str x) => if x.length ≤ sizeLine then some (((x.length : Nat) : Int) != 0) else none
  | .p (.tuple l) => some (!l.isEmpty)
  | d => (lItems S d).map fun l => !l.isEmpty
def bTru (f : ED) : BD := fun ρ S => (f ρ S).bind fun x S1 => match truD S1 x with
  | some b => .ok b S1
  | none => .st
theorem pairEmpty {α β : Type} {F : α → β → Prop} {l : List α} {r : List β} (q : Paired F l r) : (!l.isEmpty) = (!r.isEmpty) := by
  cases q <;> rfl
theorem mapEmpty {α β : Type} (f : α → β) (l : List α) : (l.map f).isEmpty = l.isEmpty := by cases l <;> rfl
theorem tru_of {d : D} {v : V} {k : Bool} (rl : Rl (KX X κ) m S H) (h : RD (KX X κ) m S H d v) (e : truD S d = some k) : TruV X.K v H k := by
  unfold truD at e
  split at e
  · cases e; rw [h.non]; rfl
  · cases e; rw [h.bl]; rfl
  · cases e; rw [h.int]; rfl
  · split at e
    · rename_i hl
      cases e; rw [h.str]; exact ⟨hl, rfl⟩
    · cases e
  · rename_i l
    cases e
    obtain ⟨p, vs, rfl, h1, h2⟩ := h.tup
    have := pairEmpty h2
    rw [mapEmpty] at this
    exact .inr (.inl ⟨vs, h1, this⟩)
  · simp only [Option.map_eq_some_iff] at e
    obtain ⟨l, e, rfl⟩ := e
    obtain ⟨p, vs, rfl, h1, h2⟩ := h.items rl e
    exact .inl ⟨vs, h1, pairEmpty h2⟩
theorem dt_truth (ha : DE X W a fa) (he : ∀ whole, isTrue a X.env whole = (do let v ← whole; standAt a.pos; holding [v] (truthy v)) := by intro _; rfl) : DT X W a (bTru fa) := by
  obtain ⟨ta, pa, ia⟩ := ha
  refine ⟨_, pt_truth pa he, fun κ ρ S σ H m Q rl re h => ?_⟩
  refine ia.seq rl re h fun d S1 v H1 m1 x1 rl1 re1 r1 h1 => ?_
  split at h1
  · rename_i k e
    exact ⟨k, tru_of rl1 r1 e, h1.ok' .refl rl1 rfl⟩
  · exact h1.elim
/-- bools as values -/
def eAnd (f g : ED) : ED := fun ρ S => (f ρ S).bind fun x S1 => match x with
  | .p (.bool true) => g ρ S1
  | .p (.bool false) => .ok (.bl false) S1
  | _ => .st
def eOr (f g : ED) : ED := fun ρ S => (f ρ S).bind fun x S1 => match x with
  | .p (.bool false) => g ρ S1
  | .p (.bool true) => .ok (.bl true) S1
  | _ => .st
def eNot (f : ED) : ED := fun ρ S => (f ρ S).bind fun x S1 => match x with
  | .p (.bool b) => .ok (.bl (!b)) S1
  | _ => .st
theorem de_one {op} (ha : DE X W a fa) : DE X W (.BoolOp op [a] pos) fa := by
  obtain ⟨t, p, i⟩ := ha
  exact ⟨t, pe_one p, i⟩
theorem de_and (ha : DE X W a fa) (hb : DE X W (.BoolOp .And (b :: rest) pos) fb) : DE X W (.BoolOp .And (a :: b :: rest) pos) (eAnd fa fb) := by
  obtain ⟨ta, pa, ia⟩ := ha
  obtain ⟨tb, pb, ib⟩ := hb
  refine ⟨_, pe_and pa pb, fun κ ρ S σ H m Q rl re h => ?_⟩
  refine ia.seq rl re h fun d S1 v H1 m1 x1 rl1 re1 r1 h1 => ?_
  split at h1
  · exact ⟨true, r1.bl, ib κ ρ S1 σ H1 m1 Q rl1 re1 h1⟩
  · exact ⟨false, r1.bl, h1.ok' .refl rl1 RD.bl_⟩
  · exact h1.elim
theorem de_or (ha : DE X W a fa) (hb : DE X W (.BoolOp .Or (b :: rest) pos) fb) : DE X W (.BoolOp .Or (a :: b :: rest) pos) (eOr fa fb) := by
  obtain ⟨ta, pa, ia⟩ := ha
  obtain ⟨tb, pb, ib⟩ := hb
  refine ⟨_, pe_or pa pb, fun κ ρ S σ H m Q rl re h => ?_⟩
  refine ia.seq rl re h fun d S1 v H1 m1 x1 rl1 re1 r1 h1 => ?_
  split at h1
  · exact ⟨false, r1.bl, ib κ ρ S1 σ H1 m1 Q rl1 re1 h1⟩
  · exact ⟨true, r1.bl, h1.ok' .refl rl1 RD.bl_⟩
  · exact h1.elim
theorem de_not (ha : DE X W a fa) : DE X W (.UnaryOp .Not a pos) (eNot fa) := by
  obtain ⟨ta, pa, ia⟩ := ha
  refine ⟨_, pe_not pa, fun κ ρ S σ H m Q rl re h => ?_⟩
  refine ia.seq rl re h fun d S1 v H1 m1 x1 rl1 re1 r1 h1 => ?_
  split at h1
  · exact ⟨_, r1.bl, h1.ok' .refl rl1 RD.bl_⟩
  · exact h1.elim
def eIf (c : BD) (f g : ED) : ED := fun ρ S => (c ρ S).bind fun x S1 => if x = true then f ρ S1 else g ρ S1
theorem de_if (hc : DT X W c ba) (ha : DE X W a fa) (hb : DE X W b fb) : DE X W (.IfExp c a b pos) (eIf ba fa fb) := by
  obtain ⟨tc, pc, ic⟩ := hc
  obtain ⟨ta, pa, ia⟩ := ha
  obtain ⟨tb, pb, ib⟩ := hb
  refine ⟨_, pe_ifExp pc pa pb, fun κ ρ S σ H m Q rl re h => ?_⟩
  refine ic.seq rl re h fun d S1 v H1 m1 x1 rl1 re1 r1 h1 => ?_
  have r1 : d = v := r1
  subst r1
  cases d with
  | true => exact ia κ ρ S1 σ H1 m1 Q rl1 re1 h1
  | false => exact ib κ ρ S1 σ H1 m1 Q rl1 re1 h1

/-! ### displays -/
variable {es : List Expr} {ga : AD}
def aNil : AD := fun _ S => .ok [] S
def aCons (f : ED) (g : AD) : AD := fun ρ S => (f ρ S).bind fun x S1 => (g ρ S1).bind fun xs S2 => .ok (x :: xs) S2
theorem da_nil : DA X W [] aNil := ⟨_, pa_nil, fun κ ρ S σ H m Q rl re h => h.ok' .refl rl .nil⟩
theorem da_cons (ha : DE X W a fa) (hb : DA X W es ga) (hs : starEach (a :: es) X.env = (false, eval a X.env) :: starEach es X.env := by rfl) : DA X W (a :: es) (aCons fa ga) := by
  obtain ⟨ta, pa, ia⟩ := ha
  obtain ⟨tb, pb, ib⟩ := hb
  refine ⟨_, pa_cons pa pb hs, fun κ ρ S σ H m Q rl re h => ?_⟩
  refine ia.seq rl re h fun d S1 v H1 m1 x1 rl1 re1 r1 h1 => ?_
  refine ib.seq rl1 re1 h1 fun d2 S2 v2 H2 m2 x2 rl2 re2 r2 h2 => ?_
  exact h2.ok' .refl rl2 (.cons (r1.nx x2) r2)
/-- things come to rest -/
def restD : D → Sto → Option (PyData × Sto)
  | .p d, S => some (d, S)
  | .ob n, S => match S[n]? with
    | some (.lst l) => (pAll l).map fun l' => (.list l', S.set n (.fz l'))
    | some (.fz l) => some (.list l, S)
    | _ => none
  | _, _ => none
theorem restD_p (d : PyData) (S : Sto) : restD (.p d) S = some (d, S) := rfl
theorem RD.restD {d : D} {v : V} {d' : PyData} {S' : Sto} (rl : Rl (KX X κ) m S H) (h : RD (KX X κ) m S H d v) (e : restD d S = some (d', S')) : Rl (KX X κ) m S' H ∧ Nx (KX X κ) m S H m S' H ∧ RD (KX X κ) m S' H (.p d') v := by
  unfold DL.restD at e
  split at e
  · cases e; exact ⟨rl, .refl, h⟩
  · rename_i n
    obtain ⟨a, em, rfl⟩ := h
    split at e
    · rename_i l es
      simp only [Option.map_eq_some_iff] at e
      obtain ⟨l', el, e⟩ := e
      cases e
      have := pAll_some el
      subst this
      exact ⟨rl.rest es, Nx.rest es rfl, RD.rest rl em es⟩
    · rename_i l es
      cases e
      refine ⟨rl, .refl, ?_⟩
      obtain ⟨vs, q, h⟩ := rl.obj n a _ em es
      show RP _ _ _ _ _
      rw [RP]
      refine ⟨a, vs, rfl, q, ?_, h⟩
      rintro (h | ⟨k, x, e1, e2, e3⟩)
      · exact (rl.hid a h).1 (List.mem_of_getElem? em)
      · by_cases hk : n = k
        · subst hk
          rw [es] at e2; cases e2; cases e3
        · exact nodup_ne rl.nd e1 em (Ne.symm hk) rfl
    · cases e
  · cases e
def restAll : List D → Sto → Option (List PyData × Sto)
  | [], S => some ([], S)
  | d :: l, S => match restD d S with
    | some (d', S') => (restAll l S').map fun r => (d' :: r.1, r.2)
    | none => none
theorem restAll_p : ∀ (l : List PyData) (S : Sto), restAll (l.map .p) S = some (l, S)
  | [], _ => rfl
  | d :: l, S => by simp [restAll, restD, restAll_p l S]
theorem RDs.restAll : ∀ {ds : List D} {vs : List V} {l : List PyData} {S S' : Sto}, Rl (KX X κ) m S H → RDs (KX X κ) m S H ds vs → restAll ds S = some (l, S') → Rl (KX X κ) m S' H ∧ Nx (KX X κ) m S H m S' H ∧ RPs (KX X κ) H (lv (KX X κ) m S') l vs
  | [], vs, l, S, S', rl, h, e => by
    cases h
    cases e
    exact ⟨rl, .refl, by rw [RPs]⟩
  | d :: ds, vs, l, S, S', rl, h, e => by
    cases h with
    | cons h1 h2 =>
      unfold DL.restAll at e
      split at e
      · rename_i d' S1 e1
        simp only [Option.map_eq_some_iff] at e
        obtain ⟨⟨l', S2⟩, e2, e⟩ := e
        cases e
        obtain ⟨rl1, x1, r1⟩ := h1.restD rl e1
        obtain ⟨rl2, x2, r2⟩ := RDs.restAll rl1 (RDs.nx x1 h2) e2
        refine ⟨rl2, x1.trans x2, ?_⟩
        rw [RPs]
        exact ⟨_, _, rfl, RP.nx x2 r1, r2⟩
      · cases e
def eTup (f : AD) : ED := fun ρ S => (f ρ S).bind fun ds S1 => match restAll ds S1 with
  | some (l, S2) => if l.length ≤ sizeLine then .ok (.tup l) S2 else .st
  | none => .st
def eLst (f : AD) : ED := fun ρ S => (f ρ S).bind fun ds S1 => match restAll ds S1 with
  | some (l, S2) => if l.length ≤ sizeLine then .ok (.lst l) S2 else .st
  | none => .st
/-- a list that will change -/
def eLstO (f : AD) : ED := fun ρ S => (f ρ S).bind fun ds S1 => if ds.length ≤ sizeLine then .ok (.ob S1.length) (S1 ++ [.lst ds]) else .st
theorem de_tup {x1 : Nat} (ha : DA X W es ga) : DE X W (.Tuple es x1 pos) (eTup ga) := by
  obtain ⟨t, p, i⟩ := ha
  refine ⟨_, pe_tup p, fun κ ρ S σ H m Q rl re h => ?_⟩
  refine i.seq rl re h fun d S1 v H1 m1 x1 rl1 re1 r1 h1 => ?_
  split at h1
  · rename_i l S2 e
    split at h1
    · rename_i hl
      obtain ⟨rl2, x2, r2⟩ := RDs.restAll rl1 r1 e
      exact ⟨by rw [← RPs_len r2]; exact hl, fun z hz => h1.ok' (x2.trans (.new rl2 hz)) (rl2.new hz) (newT rl2 hz r2)⟩
    · exact h1.elim
  · exact h1.elim
theorem de_lst (ha : DA X W es ga) : DE X W (.List es pos) (eLst ga) := by
  obtain ⟨t, p, i⟩ := ha
  refine ⟨_, pe_lst p, fun κ ρ S σ H m Q rl re h => ?_⟩
  refine i.seq rl re h fun d S1 v H1 m1 x1 rl1 re1 r1 h1 => ?_
  split at h1
  · rename_i l S2 e
    split at h1
    · rename_i hl
      obtain ⟨rl2, x2, r2⟩ := RDs.restAll rl1 r1 e
      exact ⟨by rw [← RPs_len r2]; exact hl, fun z hz => h1.ok' (x2.trans (.new rl2 hz)) (rl2.new hz) (newL rl2 hz r2)⟩
    · exact h1.elim
  · exact h1.elim
theorem de_lstO (ha : DA X W es ga) : DE X W (.List es pos) (eLstO ga) := by
  obtain ⟨t, p, i⟩ := ha
  refine ⟨_, pe_lst p, fun κ ρ S σ H m Q rl re h => ?_⟩
  refine i.seq rl re h fun d S1 v H1 m1 x1 rl1 re1 r1 h1 => ?_
  split at h1
  · rename_i hl
    exact ⟨by rw [← pairLen r1]; exact hl, fun z hz => h1.ok' (.push rl1 hz) (rl1.pushL hz r1) (RD.push rl1)⟩
  · exact h1.elim

/-! ### items, parts -/
def gIx : D → D → Sto → Rs D := fun x y S => match y with
  | .p (.int i) => (match x with
    | .p (.tuple l) => (match atI l i with | some d => .ok (.p d) S | none => .st)
    | .p (.str z) => if z.length ≤ sizeLine then (match atI z.cps.toList i with | some c => .ok (.str ⟨#[c]⟩) S | none => .st) else .st
    | x => (match lItems S x with | some l => (match atI l i with | some d => .ok d S | none => .st) | none => .st))
  | _ => .st
theorem atI_pair {α β : Type} {F : α → β → Prop} {l : List α} {r : List β} (q : Paired F l r) {i : Int} {x : α} (e : atI l i = some x) : ∃ y, atI r i = some y ∧ F x y := by
  unfold atI at e ⊢
  rw [← pairLen q]
  cases h : ixN l.length i with
  | none => rw [h] at e; cases e
  | some j =>
    rw [h] at e
    exact pairGet q e
theorem atI_map {α β : Type} (f : α → β) (l : List α) (i : Int) : atI (l.map f) i = (atI l i).map f := by
  unfold atI
  rw [List.length_map]
  cases ixN l.length i <;> simp
theorem de_ix (ha : DE X W a fa) (hb : DE X W b fb) (hs : PlainIx b) : DE X W (.Subscript a b pos) (eBin gIx fa fb) := by
  obtain ⟨ta, pa, ia⟩ := ha
  obtain ⟨tb, pb, ib⟩ := hb
  refine ⟨_, pe_ix ix_seq pa pb hs, imp_bin (fun κ x y vx vy m S H σ Q rl rx ry h => ?_) ia ib⟩
  unfold gIx at h
  split at h
  · rename_i i
    split at h
    · rename_i l
      split at h
      · rename_i d e
        obtain ⟨p, vs, rfl, h1, h2⟩ := rx.tup
        have e' : atI (l.map D.p) i = some (.p d) := by rw [atI_map, e]; rfl
        obtain ⟨y, e2, r⟩ := atI_pair h2 e'
        exact .inr (.inl ⟨p, vs, i, y, rfl, ry.int, h1, e2, h.ok' .refl rl r⟩)
      · exact h.elim
    · rename_i z
      split at h
      · rename_i hl
        split at h
        · rename_i c e
          exact .inr (.inr ⟨z, i, c, rx.str, ry.int, hl, e, h.ok' .refl rl RD.str_⟩)
        · exact h.elim
      · exact h.elim
    · split at h
      · rename_i l el
        split at h
        · rename_i d e
          obtain ⟨p, vs, rfl, h1, h2⟩ := rx.items rl el
          obtain ⟨y, e2, r⟩ := atI_pair h2 e
          exact .inl ⟨p, vs, i, y, rfl, ry.int, h1, e2, h.ok' .refl rl r⟩
        · exact h.elim
      · exact h.elim
  · exact h.elim
structure DO (X : Cx) (W : WX) (e : Option Expr) (f : Env → Sto → Rs (Option Int)) : Prop where
  ex : ∃ t : TO, PO X e t ∧ Imp X W (fun _ _ _ _ (a b : Option Int) => a = b) t f
def oNone : Env → Sto → Rs (Option Int) := fun _ S => .ok none S
def oSome (f : ED) : Env → Sto → Rs (Option Int) := fun ρ S => (f ρ S).bind fun x S1 => match x with
  | .p (.int i) => .ok (some i) S1
  | _ => .st
theorem do_none : DO X W none oNone := ⟨_, po_none, fun κ ρ S σ H m Q rl re h => h.ok' .refl rl rfl⟩
theorem do_some (ha : DE X W a fa) : DO X W (some a) (oSome fa) := by
  obtain ⟨ta, pa, ia⟩ := ha
  refine ⟨_, po_some pa, fun κ ρ S σ H m Q rl re h => ?_⟩
  refine ia.seq rl re h fun d S1 v H1 m1 x1 rl1 re1 r1 h1 => ?_
  split at h1
  · exact ⟨_, r1.int, h1.ok' .refl rl1 rfl⟩
  · exact h1.elim
def cutL {α : Type} (xs : List α) (lo hi : Option Int) : List α := (xs.drop (HT.sIx xs.length 0 lo)).take (HT.sIx xs.length xs.length hi - HT.sIx xs.length 0 lo)
def gSl : D → Option Int → Option Int → Sto → Rs D := fun x lo hi S => match x with
  | .p (.tuple l) => .ok (.tup (cutL l lo hi)) S
  | .p (.str z) => if z.length ≤ sizeLine then .ok (.str (cutS z lo hi)) S else .st
  | x => match vList S x with
    | some l => .ok (.lst (cutL l lo hi)) S
    | none => .st
def eSl (fa : ED) (fl fh : Env → Sto → Rs (Option Int)) : ED := fun ρ S => (fa ρ S).bind fun x S1 => (fl ρ S1).bind fun lo S2 => (fh ρ S2).bind fun hi S3 => gSl x lo hi S3
theorem cut_pair {α : Type} {F : α → V → Prop} {l : List α} {r : List V} (q : Paired F l r) (lo hi : Option Int) : Paired F (cutL l lo hi) (cutV r lo hi) := by
  unfold cutL cutV
  rw [← pairLen q]
  exact pairTake (pairDrop q _) _
theorem cut_all {α : Type} {l : List α} {lo hi : Option Int} (h1 : HT.sIx l.length 0 lo = 0) (h2 : HT.sIx l.length l.length hi = l.length) : cutL l lo hi = l := by
  unfold cutL
  rw [h1, h2]
  simp
theorem de_sl {lo hi : Option Expr} {p2 : Pos} {fl fh} (ha : DE X W a fa) (hl : DO X W lo fl) (hh : DO X W hi fh) : DE X W (.Subscript a (.Slice lo hi none p2) pos) (eSl fa fl fh) := by
  obtain ⟨ta, pa, ia⟩ := ha
  obtain ⟨tl, pl, il⟩ := hl
  obtain ⟨th, ph, ih⟩ := hh
  refine ⟨_, pe_slice (SlR.or sl_list (SlR.or sl_tupA sl_str)) pa pl ph, fun κ ρ S σ H m Q rl re h => ?_⟩
  refine ia.seq rl re h fun d S1 v H1 m1 x1 rl1 re1 r1 h1 => ?_
  refine il.seq rl1 re1 h1 fun lo' S2 lo2 H2 m2 x2 rl2 re2 e1 h2 => ?_
  have e1 : lo' = lo2 := e1
  subst e1
  refine ih.seq rl2 re2 h2 fun hi' S3 hi2 H3 m3 x3 rl3 re3 e2 h3 => ?_
  have e2 : hi' = hi2 := e2
  subst e2
  have r3 := (r1.nx x2).nx x3
  unfold gSl at h3
  split at h3
  · rename_i l
    obtain ⟨p, vs, rfl, q1, q2⟩ := r3.tup'
    have q2' := RPs_iff.mp q2
    refine .inr (.inl ⟨p, vs, rfl, q1, fun z => ?_, fun _ y hy => ?_⟩)
    · rw [← RPs_len q2] at z
      rw [cut_all z.1 z.2] at h3
      exact h3.ok' .refl rl3 (tup_of q1 q2)
    · exact h3.ok' (.new rl3 hy) (rl3.new hy) (newT rl3 hy (RPs_iff.mpr (cut_pair q2' _ _)))
  · split at h3
    · rename_i z hl
      exact .inr (.inr ⟨z, r3.str, hl, h3.ok' .refl rl3 RD.str_⟩)
    · exact h3.elim
  · split at h3
    · rename_i l e
      obtain ⟨p, vs, rfl, q1, q2⟩ := r3.vlist rl3 e
      exact .inl ⟨p, vs, rfl, .of q1, fun y hy => h3.ok' (.new rl3 hy) (rl3.new hy) (newL rl3 hy (RPs_iff.mpr (cut_pair (RPs_iff.mp q2) _ _)))⟩
    · exact h3.elim
end
end DL

namespace DL
open PySem PySem.Spec PyProof.Rows L2
section
variable {X : Cx} {W : WX} {m m1 : List Addr} {S S1 : Sto} {H H1 : Hp} {σ : St} {ρ : Env} {κ : Addr → Prop}
variable {a b c e : Expr} {pos : Pos} {fa fb fe : ED} {ba : BD} {s1 : Stmt} {ss ss' : List Stmt} {f1 f2 : SD}
/-! ### statements -/
def sSeq (f g : SD) : SD := fun ρ S => match f ρ S with
  | .nx ρ1 S1 => g ρ1 S1
  | o => o
def sNil : SD := fun ρ S => .nx ρ S
theorem dss_nil : DSs X W [] sNil := ⟨_, pss_nil, fun κ ρ S σ H m Dn rl re h => h σ H m .refl rl re⟩
theorem dss_cons (h1 : DS X W s1 f1) (h2 : DSs X W ss f2) : DSs X W (s1 :: ss) (sSeq f1 f2) := by
  obtain ⟨t1, p1, i1⟩ := h1
  obtain ⟨t2, p2, i2⟩ := h2
  refine ⟨_, pss_cons p1 p2, fun κ ρ S σ H m Dn rl re h => ?_⟩
  refine i1 κ ρ S σ H m _ rl re ?_
  unfold sSeq at h
  split at h
  · rename_i ρ1 S1 e
    rw [e]
    exact fun σ' H' m' x rl' re' => i2 κ ρ1 S1 σ' H' m' Dn rl' re' (PostS.nx x h)
  · rename_i hn
    cases e : f1 ρ S with
    | nx ρ1 S1 => exact absurd e (hn ρ1 S1)
    | st => rw [e] at h; exact h
    | bk ρ1 S1 => rw [e] at h; exact h
    | ct ρ1 S1 => rw [e] at h; exact h
    | rt d S1 => rw [e] at h; exact h
    | ex x ρ1 S1 => rw [e] at h; exact h
theorem dss_one (h1 : DS X W s1 f1) : DSs X W [s1] f1 := by
  obtain ⟨t1, p1, i1⟩ := h1
  exact ⟨_, pss_one p1, i1⟩
def sBrk : SD := fun ρ S => .bk ρ S
def sCnt : SD := fun ρ S => .ct ρ S
theorem ds_pass : DS X W (.Pass pos) sNil := ⟨_, ps_pass, fun κ ρ S σ H m Dn rl re h => h σ H m .refl rl re⟩
theorem ds_break : DS X W (.Break pos) sBrk := ⟨_, ps_break, fun κ ρ S σ H m Dn rl re h => h σ H m .refl rl re⟩
theorem ds_continue : DS X W (.Continue pos) sCnt := ⟨_, ps_continue, fun κ ρ S σ H m Dn rl re h => h σ H m .refl rl re⟩
def sExpr (f : ED) : SD := fun ρ S => liftS ρ (f ρ S) fun _ S1 => .nx ρ S1
theorem ds_expr (he : DE X W e fe) (hs : swapsWith e none pos.line X.env = pure false := by rfl) : DS X W (.Expr e pos) (sExpr fe) := by
  obtain ⟨t, p, i⟩ := he
  refine ⟨_, ps_expr p hs, fun κ ρ S σ H m Dn rl re h => ?_⟩
  exact i.seqS rl re h fun d S1 v H1 m1 x1 rl1 re1 r1 h1 => h1 σ H1 m1 .refl rl1 re1
/-- what is handed back, as it is; at rest -/
def sRet (f : ED) : SD := fun ρ S => liftS ρ (f ρ S) fun d S1 => .rt d S1
def sRetR (f : ED) : SD := fun ρ S => liftS ρ (f ρ S) fun d S1 => match restD d S1 with
  | some (p, S2) => .rt (.p p) S2
  | none => .st
def sRetN : SD := fun _ S => .rt .non S
theorem ds_ret (he : DE X W e fe) : DS X W (.Return (some e) pos) (sRet fe) := by
  obtain ⟨t, p, i⟩ := he
  refine ⟨_, ps_ret p, fun κ ρ S σ H m Dn rl re h => ?_⟩
  exact i.seqS rl re h fun d S1 v H1 m1 x1 rl1 re1 r1 h1 => h1 v H1 m1 .refl rl1 r1
theorem ds_retR (he : DE X W e fe) : DS X W (.Return (some e) pos) (sRetR fe) := by
  obtain ⟨t, p, i⟩ := he
  refine ⟨_, ps_ret p, fun κ ρ S σ H m Dn rl re h => ?_⟩
  refine i.seqS rl re h fun d S1 v H1 m1 x1 rl1 re1 r1 h1 => ?_
  split at h1
  · rename_i q S2 e
    obtain ⟨rl2, x2, r2⟩ := r1.restD rl1 e
    exact h1 v H1 m1 x2 rl2 r2
  · exact h1.elim
theorem ds_retN : DS X W (.Return none pos) sRetN := ⟨_, ps_retN, fun κ ρ S σ H m Dn rl re h => h .non H m .refl rl RD.non_⟩
def sIf (c : BD) (f g : SD) : SD := fun ρ S => liftS ρ (c ρ S) fun b S1 => if b = true then f ρ S1 else g ρ S1
theorem ds_if (hc : DT X W c ba) (h1 : DSs X W ss f1) (h2 : DSs X W ss' f2) : DS X W (.If c ss ss' pos) (sIf ba f1 f2) := by
  obtain ⟨tc, pc, ic⟩ := hc
  obtain ⟨t1, p1, i1⟩ := h1
  obtain ⟨t2, p2, i2⟩ := h2
  refine ⟨_, ps_if pc p1 p2, fun κ ρ S σ H m Dn rl re h => ?_⟩
  refine ic.seqS rl re h fun d S1 v H1 m1 x1 rl1 re1 r1 h1 => ?_
  have r1 : d = v := r1
  subst r1
  cases d with
  | true => exact i1 κ ρ S1 σ H1 m1 Dn rl1 re1 h1
  | false => exact i2 κ ρ S1 σ H1 m1 Dn rl1 re1 h1
/-! ### targets -/
def PostG (X : Cx) (κ : Addr → Prop) (m : List Addr) (S : Sto) (H : Hp) (r : Rs Env) (Q : St → Hp → Prop) : Prop := match r with
  | .ok ρ S' => ∀ σ' H' m', Nx (KX X κ) m S H m' S' H' → Rl (KX X κ) m' S' H' → RE (KX X κ) m' S' H' ρ σ' → Q σ' H'
  | _ => False
abbrev GD := D → Env → Sto → Rs Env
structure DG (X : Cx) (W : WX) (tg : Expr) (g : GD) : Prop where
  ex : ∃ t : TG, PG X tg t ∧ ∀ κ d v ρ S σ H m Q, Rl (KX X κ) m S H → RE (KX X κ) m S H ρ σ → RD (KX X κ) m S H d v → PostG X κ m S H (g d ρ S) Q → t v σ H Q
abbrev GDs := List D → Env → Sto → Rs Env
structure DGs (X : Cx) (W : WX) (tgs : List Expr) (g : GDs) : Prop where
  ex : ∃ t : TGs, PGs X tgs t ∧ ∀ κ ds vs ρ S σ H m Q, Rl (KX X κ) m S H → RE (KX X κ) m S H ρ σ → RDs (KX X κ) m S H ds vs → PostG X κ m S H (g ds ρ S) Q → t vs σ H Q
theorem PostG.nx {r : Rs Env} {Q : St → Hp → Prop} (x : Nx (KX X κ) m S H m1 S1 H1) (h : PostG X κ m S H r Q) : PostG X κ m1 S1 H1 r Q := by
  cases r with
  | st => exact h
  | ok d S' => exact fun v H' m' y rl r => h v H' m' (x.trans y) rl r
  | ex e S' => exact h
def gNm (i : Nat) : GD := fun d ρ S => .ok (ρ.set i (some d)) S
theorem dg_name {i : Nat} {x : Str} (hN : X.N.Nodup) (hi : X.N[i]? = some x) (hx : Loc X.env.scope x) (hf : X.fn x = true ∨ X.env.scope.names.lookup x = some .local := by first | exact .inl rfl | exact .inr rfl | assumption) : DG X W (.Name x pos) (gNm i) :=
  ⟨_, pg_name hN hi hx hf, fun κ d v ρ S σ H m Q rl re r h => h _ H m .refl rl (pairSet re fun d' e => ⟨v, rfl, by cases e; exact r⟩)⟩
def gsNil : GDs := fun ds ρ S => match ds with
  | [] => .ok ρ S
  | _ => .st
def gsCons (g : GD) (h : GDs) : GDs := fun ds ρ S => match ds with
  | d :: ds => (match g d ρ S with | .ok ρ1 S1 => h ds ρ1 S1 | _ => .st)
  | _ => .st
theorem dgs_nil : DGs X W [] gsNil := by
  refine ⟨_, pgs_nil, fun κ ds vs ρ S σ H m Q rl re r h => ?_⟩
  cases r with
  | nil => exact ⟨rfl, h σ H m .refl rl re⟩
  | cons _ _ => exact h.elim
theorem dgs_cons {es : List Expr} {g : GD} {gs : GDs} (h1 : DG X W e g) (h2 : DGs X W es gs) (hs : (assignEach (e :: es) X.env).map (·.2) = assign e X.env :: (assignEach es X.env).map (·.2) := by rfl) : DGs X W (e :: es) (gsCons g gs) := by
  obtain ⟨t1, p1, i1⟩ := h1
  obtain ⟨t2, p2, i2⟩ := h2
  refine ⟨_, pgs_cons p1 p2 hs, fun κ ds vs ρ S σ H m Q rl re r h => ?_⟩
  cases r with
  | nil => exact h.elim
  | cons q1 q2 =>
    rename_i d v ds vs
    refine ⟨v, vs, rfl, i1 κ d v ρ S σ H m _ rl re q1 ?_⟩
    unfold gsCons at h
    cases e1 : g d ρ S with
    | st => simp only [e1] at h; exact h.elim
    | ex _ _ => simp only [e1] at h; exact h.elim
    | ok ρ1 S1 =>
      simp only [e1] at h
      exact fun σ' H' m' x rl' re' => i2 κ ds vs ρ1 S1 σ' H' m' Q rl' re' (RDs.nx x q2) (PostG.nx x h)
def gTupD (n : Nat) (gs : GDs) : GD := fun d ρ S => match d with
  | .p (.tuple l) => if l.length = n then gs (l.map .p) ρ S else .st
  | _ => .st
theorem dg_tup {es : List Expr} {k n : Nat} {gs : GDs} (hc : X.calm = true) (h : DGs X W es gs) (hn : (assignEach es X.env).length = n := by rfl) (hst : (assignEach es X.env).findIdx? (·.1) = none := by rfl) : DG X W (.Tuple es k pos) (gTupD n gs) := by
  obtain ⟨t, p, i⟩ := h
  refine ⟨_, pg_tup hc p hn hst, fun κ d v ρ S σ H m Q rl re r h => ?_⟩
  unfold gTupD at h
  split at h
  · split at h
    · rename_i l hl
      obtain ⟨q, vs, rfl, h1, h2⟩ := r.tup
      exact ⟨q, vs, rfl, h1, by rw [← pairLen h2, List.length_map]; exact hl, i κ _ vs ρ S σ H m Q rl re h2 h⟩
    · exact h.elim
  · exact h.elim
/-- xs[i] = v of a list that changes -/
def setL (d : D) (o i : D) (S : Sto) : Option Sto := match o with
  | .ob n => (match i with
    | .p (.int i) => (match S[n]? with
      | some (.lst l) => (match ixN l.length i with
        | some j => some (S.set n (.lst (l.set j d)))
        | none => none)
      | _ => none)
    | _ => none)
  | _ => none
def okE (ρ : Env) (o : Option Sto) : Rs Env := match o with
  | some S => .ok ρ S
  | none => .st
def gSetL (fo fi : ED) : GD := fun d ρ S => (fo ρ S).bind fun o S1 => (fi ρ S1).bind fun i S2 => okE ρ (setL d o i S2)
theorem Imp.to {α β : Type} {Ra : Kh → List Addr → Sto → Hp → α → β → Prop} {t : St → Hp → (β → Hp → Prop) → Prop} {f : Env → Sto → Rs α} (i : Imp X W Ra t f) (rl : Rl (KX X κ) m S H) (re : RE (KX X κ) m S H ρ σ) {d : α} {S1 : Sto} (e : f ρ S = .ok d S1) {C : β → Hp → Prop}
    (h : ∀ v H1 m1, Nx (KX X κ) m S H m1 S1 H1 → Rl (KX X κ) m1 S1 H1 → RE (KX X κ) m1 S1 H1 ρ σ → Ra (KX X κ) m1 S1 H1 d v → C v H1) : t σ H C := by
  refine i κ ρ S σ H m C rl re ?_
  rw [e]
  exact fun v H1 m1 x rl1 r => h v H1 m1 x rl1 (re.nx x) r
theorem dg_setL {o i : Expr} {fo fi : ED} (ho : DE X W o fo) (hi : DE X W i fi)
    (ha : ∀ v, assign (.Subscript o i pos) X.env v = (do
      let ov ← holding [v] (eval o X.env)
      let iv ← holding [v, ov] (eval i X.env)
      standAt pos
      holding [v, ov, iv] (setItem ov iv v)
      release [v, ov, iv] []) := by intro _; rfl) : DG X W (.Subscript o i pos) (gSetL fo fi) := by
  obtain ⟨t1, p1, i1⟩ := ho
  obtain ⟨t2, p2, i2⟩ := hi
  refine ⟨_, pg_sub p1 p2 set_list ha, fun κ d v ρ S σ H m Q rl re r h => ?_⟩
  unfold gSetL at h
  cases e1 : fo ρ S with
  | st => rw [e1] at h; exact h.elim
  | ex _ _ => rw [e1] at h; exact h.elim
  | ok o' S1 =>
    rw [e1] at h
    refine i1.to rl re e1 fun v1 H1 m1 x1 rl1 re1 r1 => ?_
    have h1 : PostG X κ m1 S1 H1 ((fi ρ S1).bind fun i S2 => okE ρ (setL d o' i S2)) Q := PostG.nx x1 h
    cases e2 : fi ρ S1 with
    | st => rw [e2] at h1; exact h1.elim
    | ex _ _ => rw [e2] at h1; exact h1.elim
    | ok i' S2 =>
      rw [e2] at h1
      refine i2.to rl1 re1 e2 fun v2 H2 m2 x2 rl2 re2 r2 => ?_
      have h2 : PostG X κ m2 S2 H2 (okE ρ (setL d o' i' S2)) Q := PostG.nx x2 h1
      cases e3 : setL d o' i' S2 with
      | none => rw [e3] at h2; exact h2.elim
      | some S3 =>
        rw [e3] at h2
        unfold setL at e3
        split at e3
        · rename_i n
          split at e3
          · rename_i k
            split at e3
            · rename_i l es
              split at e3
              · rename_i j ej
                cases e3
                obtain ⟨p, em, rfl⟩ := r1.nx x2
                obtain ⟨vs, q1, q2⟩ := rl2.obj n p _ em es
                have rd := (r.nx x1).nx x2
                have q3 := pairSet q2 (i := j) rd
                exact ⟨p, vs, k, j, rfl, r2.int, q1, by rw [← pairLen q2]; exact ej, h2 σ _ m2 (Nx.put rl2 em es rfl) (rl2.putL em es q3) (re2.nx (Nx.put rl2 em es rfl))⟩
              · cases e3
            · cases e3
          · cases e3
        · cases e3
def sAsg (f : ED) (g : GD) : SD := fun ρ S => liftS ρ (f ρ S) fun d S1 => match g d ρ S1 with
  | .ok ρ1 S2 => .nx ρ1 S2
  | _ => .st
theorem imp_asg {te : TE} {t : TG} {g : GD} (ie : Imp X W RD te fe) (ig : ∀ κ d v ρ S σ H m Q, Rl (KX X κ) m S H → RE (KX X κ) m S H ρ σ → RD (KX X κ) m S H d v → PostG X κ m S H (g d ρ S) Q → t v σ H Q) : ImpS X W (tAsg te t) (sAsg fe g) := by
  intro κ ρ S σ H m Dn rl re h
  refine ie.seqS rl re h fun d S1 v H1 m1 x1 rl1 re1 r1 h1 => ?_
  refine ig κ d v ρ S1 σ H1 m1 _ rl1 re1 r1 ?_
  split at h1
  · rename_i e
    rw [e]
    exact h1
  · exact h1.elim
theorem ds_asg {tg : Expr} {g : GD} (he : DE X W e fe) (hg : DG X W tg g) (hs : swapsWithSole [tg] e pos.line X.env = pure false := by rfl) (hw : swappedStores [tg] e X.env = pure none := by rfl)
    (h1 : (assignEach [tg] X.env).map (·.2) = [assign tg X.env] := by rfl) : DS X W (.Assign [tg] e pos) (sAsg fe g) := by
  obtain ⟨te, pe, ie⟩ := he
  obtain ⟨t, pg, ig⟩ := hg
  exact ⟨_, ps_asg pe pg hs hw h1, imp_asg ie ig⟩
/-- name = value -/
def sSet (i : Nat) (f : ED) : SD := fun ρ S => liftS ρ (f ρ S) fun d S1 => .nx (ρ.set i (some d)) S1
theorem ds_set {i : Nat} {x : Str} {pos' : Pos} (hN : X.N.Nodup) (hi : X.N[i]? = some x) (hx : Loc X.env.scope x) (he : DE X W e fe) (hs : swapsWith e (some (.Name x pos')) pos.line X.env = pure false := by rfl)
    (hf : X.fn x = true ∨ X.env.scope.names.lookup x = some .local := by first | exact .inl rfl | exact .inr rfl | assumption) : DS X W (.Assign [.Name x pos'] e pos) (sSet i fe) := by
  obtain ⟨te, pe, ie⟩ := he
  refine ⟨_, ps_set hN hi hx pe hs hf, fun κ ρ S σ H m Dn rl re h => ?_⟩
  refine ie.seqS rl re h fun d S1 v H1 m1 x1 rl1 re1 r1 h1 => ?_
  exact h1 _ H1 m1 .refl rl1 (pairSet re1 fun d' e => ⟨v, rfl, by cases e; exact r1⟩)
/-- name op= e -/
def sAug (i : Nat) (f : ED) (g : D → D → Sto → Rs D) : SD := fun ρ S => match ρ[i]? with
  | some (some x) => liftS ρ (f ρ S) fun y S1 => liftS ρ (g x y S1) fun z S2 => .nx (ρ.set i (some z)) S2
  | _ => .st
theorem ds_aug {i : Nat} {x : Str} {op : Operator} {pos' : Pos} {g : D → D → Sto → Rs D} (hN : X.N.Nodup) (hi : X.N[i]? = some x) (hx : Loc X.env.scope x) (he : DE X W e fe) (ho : OpD X W (inplaceOp op) g)
    (hf : X.fn x = true ∨ X.env.scope.names.lookup x = some .local := by first | exact .inl rfl | exact .inr rfl | assumption) : DS X W (.AugAssign (.Name x pos') op e pos) (sAug i fe g) := by
  obtain ⟨te, pe, ie⟩ := he
  obtain ⟨r, o, hr⟩ := ho
  refine ⟨_, ps_aug hN hi hx pe o hf, fun κ ρ S σ H m Dn rl re h => ?_⟩
  unfold sAug at h
  split at h
  · rename_i d0 e0
    obtain ⟨v0, e1, q⟩ := pairGet re e0
    obtain ⟨u, rfl, r0⟩ := q d0 rfl
    refine ⟨u, e1, ?_⟩
    refine ie.seqS rl re h fun d S1 v H1 m1 x1 rl1 re1 r1 h1 => ?_
    refine hr κ d0 d u v m1 S1 H1 σ _ rl1 (r0.nx x1) r1 ?_
    cases e2 : g d0 d S1 with
    | st => rw [e2] at h1; exact h1
    | ex y S2 => rw [e2] at h1; exact fun H' m' c dd x rl' rx => h1 σ H' m' c dd x rl' (re1.nx x) rx
    | ok z S2 =>
      rw [e2] at h1
      exact fun v' H' m' x rl' rz => h1 _ H' m' x rl' (pairSet (re1.nx x) fun d' e => ⟨v', rfl, by cases e; exact rz⟩)
  · exact h.elim
def gAddI : D → D → Sto → Rs D := fun x y S => match x, y with
  | .p (.int i), .p (.int j) => .ok (.int (i + j)) S
  | .p (.str a), .p (.str b) => if a.length + b.length ≤ sizeLine then .ok (.str (a ++ b)) S else .st
  | _, _ => .st
theorem oi_add : OpD X W (inplaceOp .Add) gAddI := by
  refine ⟨_, OpR.or iop_add iop_add_str, fun κ x y vx vy m S H σ Q rl rx ry h => ?_⟩
  unfold gAddI at h
  split at h
  · exact .inl ⟨_, _, rx.int, ry.int, h.ok' .refl rl RD.int_⟩
  · split at h
    · rename_i hl
      exact .inr ⟨_, _, rx.str, ry.str, hl, h.ok' .refl rl RD.str_⟩
    · exact h.elim
  · exact h.elim
theorem oi_sub : OpD X W (inplaceOp .Sub) gSub := by
  refine ⟨_, iop_sub, fun κ x y vx vy m S H σ Q rl rx ry h => ?_⟩
  unfold gSub gInt at h
  split at h
  · rw [if_pos rfl] at h
    exact ⟨_, _, rx.int, ry.int, h.ok' .refl rl RD.int_⟩
  · exact h.elim

/-! ### what is walked -/
structure ItOk (K : Kh) (m : List Addr) (S : Sto) (H : Hp) (J : It) (ds : List D) (chk : Sto → Prop) : Prop where
  here : chk S
  go : ∀ (h' : Addr → Prop) (m' : List Addr) (S' : Sto) (H' : Hp) (i : Nat) (d : D), (∀ a, h' a → K.h a ∨ H a = none) → Nx K m S H m' S' H' → Rl ⟨K.K, h'⟩ m' S' H' → chk S' → ds[i]? = some d →
    J.go i H' ∧ ∀ x H'', J.yld i H' x H'' → Nx ⟨K.K, h'⟩ m' S' H' m' S' H'' ∧ Rl ⟨K.K, h'⟩ m' S' H'' ∧ RD ⟨K.K, h'⟩ m' S' H'' d x
  stop : ∀ (h' : Addr → Prop) (m' : List Addr) (S' : Sto) (H' : Hp) (i : Nat), (∀ a, h' a → K.h a ∨ H a = none) → Nx K m S H m' S' H' → Rl ⟨K.K, h'⟩ m' S' H' → chk S' → ds.length ≤ i → J.stop i H'
abbrev IDt := List D × (Sto → Prop)
structure DI (X : Cx) (W : WX) (tg iter : Expr) (f : Env → Sto → Rs IDt) : Prop where
  ex : ∃ wi : TI, PI X tg iter wi ∧ Imp X W (fun K m S H (d : IDt) (J : It) => ItOk K m S H J d.1 d.2) wi f
/-- over a list or a tuple -/
def chkOf (d : D) (l : List D) : Sto → Prop := match d with
  | .ob n => fun S => lItems S (.ob n) = some l
  | _ => fun _ => True
def iLst (f : ED) : Env → Sto → Rs IDt := fun ρ S => (f ρ S).bind fun d S1 => match lItems S1 d with
  | some l => .ok (l, chkOf d l) S1
  | none => .st
def iTpl (f : ED) : Env → Sto → Rs IDt := fun ρ S => (f ρ S).bind fun d S1 => match d with
  | .p (.tuple l) => .ok (l.map .p, fun _ => True) S1
  | _ => .st
theorem di_lst {tg : Expr} (he : DE X W e fe) : DI X W tg e (iLst fe) := by
  obtain ⟨t, p, i⟩ := he
  refine ⟨_, pi_list p, fun κ ρ S σ H m Q rl re h => ?_⟩
  refine i.seq rl re h fun d S1 v H1 m1 x1 rl1 re1 r1 h1 => ?_
  split at h1
  · rename_i l el
    obtain ⟨q, vs, rfl, q1, q2⟩ := r1.items rl1 el
    have key : ∀ (h' : Addr → Prop) (m' : List Addr) (S' : Sto) (H' : Hp), (∀ a, h' a → κ a ∨ H1 a = none) → Nx (KX X κ) m1 S1 H1 m' S' H' → Rl (KX X h') m' S' H' → chkOf d l S' → ∃ ws, SqL X.K H' q ws ∧ RDs (KX X h') m' S' H' l ws := by
      intro h' m' S' H' hs x rl' ck
      have el' : lItems S' d = some l := by
        cases d with
        | p d =>
          cases d <;> first | (exact el) | (exact absurd el (by simp [lItems]))
        | ob n => exact ck
        | scr ns => exact el
        | xc _ _ _ => exact absurd el (by simp [lItems])
      obtain ⟨q', vs', e', q1', q2'⟩ := RD.items rl' (RD.nxh x hs r1) el'
      cases e'
      exact ⟨vs', q1', q2'⟩
    refine ⟨q, rfl, ⟨vs, q1⟩, h1.ok' .refl rl1 ⟨?_, fun h' m' S' H' i d' hs x rl' ck e => ?_, fun h' m' S' H' i hs x rl' ck hi => ?_⟩⟩
    · show chkOf d l S1
      unfold chkOf
      split
      · exact el
      · trivial
    · obtain ⟨ws, s1, s2⟩ := key h' m' S' H' hs x rl' ck
      obtain ⟨y, ey, ry⟩ := pairGet s2 e
      refine ⟨⟨ws, y, s1, ey⟩, fun z H'' hy => ?_⟩
      obtain ⟨rfl, hy⟩ := hy
      have := hy ws s1
      rw [ey] at this
      cases this
      exact ⟨.refl, rl', ry⟩
    · obtain ⟨ws, s1, s2⟩ := key h' m' S' H' hs x rl' ck
      exact ⟨ws, s1, by rw [← pairLen s2]; exact hi⟩
  · exact h1.elim
theorem di_tup {tg : Expr} (he : DE X W e fe) : DI X W tg e (iTpl fe) := by
  obtain ⟨t, p, i⟩ := he
  refine ⟨_, pi_tup p, fun κ ρ S σ H m Q rl re h => ?_⟩
  refine i.seq rl re h fun d S1 v H1 m1 x1 rl1 re1 r1 h1 => ?_
  split at h1
  · rename_i l
    obtain ⟨q, vs, rfl, q1, q2⟩ := r1.tup
    refine ⟨q, rfl, ⟨vs, q1⟩, h1.ok' .refl rl1 ⟨trivial, fun h' m' S' H' i d' hs x rl' ck e => ?_, fun h' m' S' H' i hs x rl' ck hi => ?_⟩⟩
    · obtain ⟨y, ey, ry⟩ := pairGet (RDs.nxh x hs q2) e
      refine ⟨⟨vs, y, x.tup _ _ q1, ey⟩, fun z H'' hy => ?_⟩
      obtain ⟨rfl, hy⟩ := hy
      have := hy vs (x.tup _ _ q1)
      rw [ey] at this
      cases this
      exact ⟨.refl, rl', ry⟩
    · exact ⟨vs, x.tup _ _ q1, by rw [← pairLen q2]; exact hi⟩
  · exact h1.elim
/-- range -/
def rngL (lo : Int) (n : Nat) : List D := (List.range n).map fun (k : Nat) => D.int (lo + (k : Int))
noncomputable def big62 (i : Int) : Bool := @decide (-(2 ^ 62) ≤ i ∧ i < 2 ^ 62) (Classical.propDecidable _)
theorem big62_iff {i : Int} (h : big62 i = true) : -(2 ^ 62) ≤ i ∧ i < 2 ^ 62 := @of_decide_eq_true _ (Classical.propDecidable _) h
noncomputable def iRgA (f : AD) : Env → Sto → Rs IDt := fun ρ S => (f ρ S).bind fun ds S1 => match ds with
  | [.p (.int j)] => if big62 j = true then .ok (rngL 0 j.toNat, fun _ => True) S1 else .st
  | _ => .st
noncomputable def iRgB (f : AD) : Env → Sto → Rs IDt := fun ρ S => (f ρ S).bind fun ds S1 => match ds with
  | [.p (.int i), .p (.int j)] => if big62 i = true ∧ big62 j = true then .ok (rngL i (j - i).toNat, fun _ => True) S1 else .st
  | _ => .st
theorem itr_ok {lo : Int} {n : Nat} : ItOk (KX X κ) m S H (Itr lo n) (rngL lo n) (fun _ => True) := by
  refine ⟨trivial, fun h' m' S' H' i d' hs x rl' ck e => ?_, fun h' m' S' H' i hs x rl' ck hi => ?_⟩
  · unfold rngL at e
    rw [List.getElem?_map] at e
    have hi : i < n := by
      cases h : (List.range n)[i]? with
      | none => rw [h] at e; cases e
      | some k =>
        have := (List.getElem?_eq_some_iff.mp h).1
        simpa using this
    rw [List.getElem?_range hi] at e
    cases e
    refine ⟨hi, fun z H'' hy => ?_⟩
    obtain ⟨rfl, rfl⟩ := hy
    exact ⟨.refl, rl', RD.int_⟩
  · unfold rngL at hi
    rw [List.length_map, List.length_range] at hi
    exact hi
theorem RDs1 {d : D} {vs : List V} (h : RDs (KX X κ) m S H [d] vs) : ∃ v, vs = [v] ∧ RD (KX X κ) m S H d v := by
  cases h with
  | cons h1 h2 => cases h2; exact ⟨_, rfl, h1⟩
theorem RDs2 {d d' : D} {vs : List V} (h : RDs (KX X κ) m S H [d, d'] vs) : ∃ v v', vs = [v, v'] ∧ RD (KX X κ) m S H d v ∧ RD (KX X κ) m S H d' v' := by
  cases h with
  | cons h1 h2 =>
    obtain ⟨v', rfl, h3⟩ := RDs1 h2
    exact ⟨_, _, rfl, h1, h3⟩
theorem di_range1 {tg : Expr} {p : Pos} {ga : AD} (hg : Gl X "range") (hm : X.mg "range" = none) (ha : DA X W [a] ga) (hs : starEach [a] X.env = [(false, eval a X.env)] := by rfl) : DI X W tg (.Call (.Name "range" p) [a] [] pos) (iRgA ga) := by
  obtain ⟨t, q, i⟩ := ha
  refine ⟨_, pi_range1 hg hm q hs, fun κ ρ S σ H m Q rl re h => ?_⟩
  refine i.seq rl re h fun d S1 v H1 m1 x1 rl1 re1 r1 h1 => ?_
  split at h1
  · split at h1
    · rename_i j hj
      obtain ⟨u, rfl, q1⟩ := RDs1 r1
      have hj := big62_iff hj
      rw [q1.int]
      exact ⟨j, rfl, hj.1, hj.2, h1.ok' .refl rl1 itr_ok⟩
    · exact h1.elim
  · exact h1.elim
theorem di_range2 {tg : Expr} {p : Pos} {ga : AD} (hg : Gl X "range") (hm : X.mg "range" = none) (ha : DA X W [a, b] ga) (hs : starEach [a, b] X.env = [(false, eval a X.env), (false, eval b X.env)] := by rfl) (hs2 : starEach [b] X.env = [(false, eval b X.env)] := by rfl) :
    DI X W tg (.Call (.Name "range" p) [a, b] [] pos) (iRgB ga) := by
  obtain ⟨t, q, i⟩ := ha
  refine ⟨_, pi_range2 hg hm q hs hs2, fun κ ρ S σ H m Q rl re h => ?_⟩
  refine i.seq rl re h fun d S1 v H1 m1 x1 rl1 re1 r1 h1 => ?_
  split at h1
  · split at h1
    · rename_i i j hj
      obtain ⟨u, u', rfl, q1, q2⟩ := RDs2 r1
      have h1' := big62_iff hj.1
      have h2' := big62_iff hj.2
      rw [q1.int, q2.int]
      exact ⟨i, j, rfl, ⟨h1'.1, h1'.2, h2'.1, h2'.2⟩, h1.ok' .refl rl1 itr_ok⟩
    · exact h1.elim
  · exact h1.elim
/-! ### for -/
open Classical in
noncomputable def forL (g : GD) (body : SD) (chk : Sto → Prop) : List D → Env → Sto → Out
  | [], ρ, S => .nx ρ S
  | d :: ds, ρ, S => match g d ρ S with
    | .ok ρ1 S1 => (match body ρ1 S1 with
      | .nx ρ2 S2 => if chk S2 then forL g body chk ds ρ2 S2 else .st
      | .ct ρ2 S2 => if chk S2 then forL g body chk ds ρ2 S2 else .st
      | .bk ρ2 S2 => .nx ρ2 S2
      | o => o)
    | _ => .st
noncomputable def sFor (f : Env → Sto → Rs IDt) (g : GD) (body : SD) : SD := fun ρ S => liftS ρ (f ρ S) fun d S1 => forL g body d.2 d.1 ρ S1
theorem imp_for {wi : TI} {t : TG} {tb : TS} {f : Env → Sto → Rs IDt} {g : GD} {fb : SD} (ii : Imp X W (fun K m S H (d : IDt) (J : It) => ItOk K m S H J d.1 d.2) wi f)
    (ig : ∀ κ d v ρ S σ H m Q, Rl (KX X κ) m S H → RE (KX X κ) m S H ρ σ → RD (KX X κ) m S H d v → PostG X κ m S H (g d ρ S) Q → t v σ H Q) (ib : ImpS X W tb fb) : ImpS X W (tFor wi t tb) (sFor f g fb) := by
  intro κ ρ S σ H m Dn rl re h
  refine ii.seqS rl re h fun d S1 J H1 m1 x1 rl1 re1 ok h1 => ?_
  obtain ⟨ds, chk⟩ := d
  have ok : ItOk (KX X κ) m1 S1 H1 J ds chk := ok
  refine ⟨fun i n σ' H' => n = ds.length - i ∧ i ≤ ds.length ∧ ∃ ρ' S' m', Nx (KX X κ) m1 S1 H1 m' S' H' ∧ Rl (KX X κ) m' S' H' ∧ RE (KX X κ) m' S' H' ρ' σ' ∧ chk S' ∧ PostS X κ W m' S' H' (forL g fb chk (ds.drop i) ρ' S') Dn,
    ⟨ds.length, by simp, Nat.zero_le _, ρ, S1, m1, .refl, rl1, re1, ok.here, by simpa using h1⟩, ?_⟩
  rintro i n σ2 H2 ⟨rfl, hi, ρ2, S2, m2, x2, rl2, re2, ck, h2⟩
  by_cases hlt : i < ds.length
  · have ed : ds.drop i = ds[i] :: ds.drop (i + 1) := List.drop_eq_getElem_cons hlt
    rw [ed] at h2
    obtain ⟨hgo, hy⟩ := ok.go κ m2 S2 H2 i ds[i] (fun _ z => .inl z) x2 rl2 ck (List.getElem?_eq_getElem hlt)
    refine .inr ⟨hgo, fun σ' H' => i + 1 ≤ ds.length ∧ ∃ ρ' S' m', Nx (KX X κ) m1 S1 H1 m' S' H' ∧ Rl (KX X κ) m' S' H' ∧ RE (KX X κ) m' S' H' ρ' σ' ∧ chk S' ∧ PostS X κ W m' S' H' (forL g fb chk (ds.drop (i + 1)) ρ' S') Dn,
      fun σ' H' z => ⟨ds.length - (i + 1), by omega, rfl, z.1, z.2⟩, fun x H'' y => ?_⟩
    obtain ⟨x3, rl3, r3⟩ := hy x H'' y
    refine ig κ ds[i] x ρ2 S2 σ2 H'' m2 _ rl3 (re2.nx x3) r3 ?_
    have h3 := PostS.nx x3 h2
    unfold forL at h3
    cases e1 : g ds[i] ρ2 S2 with
    | st => simp only [e1] at h3; exact h3.elim
    | ex _ _ => simp only [e1] at h3; exact h3.elim
    | ok ρ4 S4 =>
      simp only [e1] at h3
      intro σ4 H4 m4 x4 rl4 re4
      refine ib κ ρ4 S4 σ4 H4 m4 _ rl4 re4 ?_
      have h4 := PostS.nx x4 h3
      have x14 := (x2.trans x3).trans x4
      cases e2 : fb ρ4 S4 with
      | st => simp only [e2] at h4; exact h4.elim
      | nx ρ5 S5 =>
        simp only [e2] at h4
        intro σ5 H5 m5 x5 rl5 re5
        by_cases hc : chk S5
        · rw [if_pos hc] at h4
          exact ⟨hlt, ρ5, S5, m5, x14.trans x5, rl5, re5, hc, PostS.nx x5 h4⟩
        · rw [if_neg hc] at h4; exact h4.elim
      | ct ρ5 S5 =>
        simp only [e2] at h4
        intro σ5 H5 m5 x5 rl5 re5
        by_cases hc : chk S5
        · rw [if_pos hc] at h4
          exact ⟨hlt, ρ5, S5, m5, x14.trans x5, rl5, re5, hc, PostS.nx x5 h4⟩
        · rw [if_neg hc] at h4; exact h4.elim
      | bk ρ5 S5 => simp only [e2] at h4; exact h4
      | rt d5 S5 => simp only [e2] at h4; exact h4
      | ex x5 ρ5 S5 => simp only [e2] at h4; exact h4
  · have e0 : ds.drop i = [] := List.drop_eq_nil_of_le (Nat.le_of_not_lt hlt)
    rw [e0] at h2
    exact .inl ⟨ok.stop κ m2 S2 H2 i (fun _ z => .inl z) x2 rl2 ck (Nat.le_of_not_lt hlt), h2 σ2 H2 m2 .refl rl2 re2⟩
theorem ds_for {tg iter : Expr} {body : List Stmt} {f : Env → Sto → Rs IDt} {g : GD} {fb : SD} (hp : PassesOwn (model X.prog X.w) X.A X.env X.xe) (hc : X.calm = true) (hi : DI X W tg iter f) (hg : DG X W tg g) (hb : DSs X W body fb)
    (hs : ∀ x, foldedSetIterable iter X.env x = pure x := by intro _; rfl) : DS X W (.For tg iter body [] pos) (sFor f g fb) := by
  obtain ⟨wi, pi, ii⟩ := hi
  obtain ⟨t, pg, ig⟩ := hg
  obtain ⟨tb, pb, ib⟩ := hb
  exact ⟨_, ps_for hp hc pi pg pb hs, imp_for ii ig ib⟩
end
end DL

namespace DL
open PySem PySem.Spec PyProof.Rows L2
/-! ### defs -/
abbrev FD := List D → Sto → Rs D
def PostF (K : Kh) (mg : Str → Option Value) (m : List Addr) (S : Sto) (H : Hp) (r : Rs D) (Q : VK) (E : XK) : Prop := match r with
  | .st => False
  | .ok d S' => ∀ v H' m', Nx K m S H m' S' H' → Rl K m' S' H' → RD K m' S' H' d v → Q v H'
  | .ex x S' => ∀ H' m' c dd, Nx K m S H m' S' H' → Rl K m' S' H' → RX mg K (lv K m' S') H' x c dd → E c dd H'
def spOf (K : PySem.W.Frag) (mg : Str → Option Value) (n : Nat) (g : FD) : Sp := fun vs H Q E => vs.length = n ∧ ∃ κ ds S m, Rl ⟨K, κ⟩ m S H ∧ RDs ⟨K, κ⟩ m S H ds vs ∧ PostF ⟨K, κ⟩ mg m S H (g ds S) Q E
def noEx (r : Rs D) : Rs D := match r with
  | .ex _ _ => .st
  | r => r
@[simp] theorem noEx_ok (d : D) (S : Sto) : noEx (.ok d S) = .ok d S := rfl
/-- the def called x does g, by at most level k; it lets nothing out -/
structure FnD (P : Program) (w : World) (K : PySem.W.Frag) (mg : Str → Option Value) (base : Heap) (k : Nat) (x : Str) (n : Nat) (g : FD) : Prop where
  ex : ∃ (f : Addr) (fd : FuncData) (ps : List Str), ps.length = n ∧ mg x = some (.ref f) ∧ PySem.W.keepIn K (.ref f) = true ∧ Binds K fd ps [] ∧ FnOk P w K mg base CX0 k f fd ps (spOf K mg n fun ds S => noEx (g ds S))
/-- .. it may raise -/
structure FnX (P : Program) (w : World) (K : PySem.W.Frag) (mg : Str → Option Value) (base : Heap) (k : Nat) (x : Str) (n : Nat) (g : FD) : Prop where
  ex : ∃ (f : Addr) (fd : FuncData) (ps : List Str), ps.length = n ∧ mg x = some (.ref f) ∧ PySem.W.keepIn K (.ref f) = true ∧ Binds K fd ps [] ∧ FnOk P w K mg base (L2.CX P w) k f fd ps (spOf K mg n g)
/-- what stands in the end against what is told: things left behind are dropped -/
def Dn (S : Sto) (o : Out) (r : Rs D) : Prop := match r with
  | .st => True
  | .ok d S' => S.length ≤ S'.length ∧ ClS S'.length S' ∧ ClD S'.length d ∧ ((∃ T, o = .rt d (S' ++ T)) ∨ (d = .non ∧ ∃ ρ T, o = .nx ρ (S' ++ T)))
  | .ex x S' => S.length ≤ S'.length ∧ ClS S'.length S' ∧ ∃ ρ T, o = .ex x ρ (S' ++ T)
def start0 (N : List Str) (ds : List D) : Env := ds.map some ++ List.replicate (N.length - ds.length) none
section
variable {P : Program} {w : World} {K : PySem.W.Frag} {mg : Str → Option Value} {base : Heap}
theorem RE_start {K : Kh} {m : List Addr} {S : Sto} {H : Hp} {N : List Str} {ds : List D} {vs : List V} (r : RDs K m S H ds vs) : RE K m S H (start0 N ds) (L2.start N vs) := by
  unfold start0 L2.start
  rw [pairLen r]
  refine pairApp ?_ ?_
  · induction r with
    | nil => exact .nil
    | cons h _ ih => exact .cons (fun d e => by cases e; exact ⟨_, rfl, h⟩) ih
  · generalize N.length - vs.length = n
    induction n with
    | zero => exact .nil
    | succ n ih => exact .cons (fun d e => by cases e) ih
theorem post_of {X : Cx} {κ : Addr → Prop} {W : WX} {m : List Addr} {S : Sto} {H : Hp} {o : Out} {r : Rs D} {Q : VK} {E : XK} (rl : Rl (KX X κ) m S H) (dn : Dn S o r) (h : PostF (KX X κ) X.mg m S H r Q E) (hE : ∀ c dd σ H, E c dd H → W c dd σ H) :
    PostS X κ W m S H o { nx := fun _ H' => Q .non H', rt := Q } := by
  cases r with
  | st => exact h.elim
  | ok d S' =>
    obtain ⟨hl, cs, cd, dn⟩ := dn
    rcases dn with ⟨T, rfl⟩ | ⟨rfl, ρ, T, rfl⟩
    · exact fun v H' m' x rl' r => h v H' (m'.take S'.length) (x.drop rl rl' hl) (rl'.drop cs) (RD.drop r cd)
    · exact fun σ' H' m' x rl' r => h .non H' (m'.take S'.length) (x.drop rl rl' hl) (rl'.drop cs) RD.non_
  | ex y S' =>
    obtain ⟨hl, cs, ρ, T, rfl⟩ := dn
    refine fun σ' H' m' c dd x rl' re rx => hE c dd σ' H' (h H' (m'.take S'.length) c dd (x.drop rl rl' hl) (rl'.drop cs) ?_)
    exact rx
theorem Fun.dl {x : Str} {st : Stmt} {f : Addr} {fd : FuncData} {N ps : List Str} {k : Nat} {F : SD} {g : FD} (Fu : Fun K x x st f fd) (Sc : FnScope N ps (defScope st)) (gm : mg x = some (.ref f)) (bd : Binds K fd ps [])
    (body : ∀ (cdv : Value) (A : Around) (outer : List PySem.Env) (s : Shared) (H : Hp) (E : XK), Room k (A.deeper (envOfC x (defScope st) s.heap.objs.size f cdv)) →
      DSs (cxOf CX0 P w K mg base N x (defScope st) f cdv A outer s H E).nox (fun _ _ _ _ => False) (defBody st) F)
    (hg : ∀ ds S, ds.length = ps.length → ClS S.length S → (∀ d ∈ ds, ClD S.length d) → Dn S (F (start0 N ds) S) (g ds S)) : FnD P w K mg base (k + 1) x ps.length g := by
  refine ⟨f, fd, ps, rfl, gm, Fu.kp, bd, Fu.ok Sc (fun vs H Q E h => h.1) fun cdv A outer s H vs Q E hr h => ?_⟩
  obtain ⟨hl, κ, ds, S, m, rl, rd, po⟩ := h
  obtain ⟨t, pt, it⟩ := body cdv A outer s H E hr
  refine ⟨t, pt, it κ (start0 N ds) S (L2.start N vs) H m _ rl (RE_start rd) ?_⟩
  refine post_of (E := fun _ _ _ => False) rl (hg ds S ((pairLen rd).trans hl) rl.cl (fun d hd => ?_)) ?_ (fun _ _ _ _ z => z)
  · have := pairAll (F := RD ⟨K, κ⟩ m S H) (P := ClD m.length) (fun _ _ q => q.cl) rd d hd
    rw [rl.len] at this
    exact this
  · have po : PostF ⟨K, κ⟩ mg m S H (noEx (g ds S)) Q E := po
    cases e : g ds S with
    | st => rw [e] at po; exact po.elim
    | ok d S' => rw [e] at po; exact po
    | ex y S' => rw [e] at po; exact po.elim
/-- the same for a def that may raise -/
theorem Fun.dlX {x : Str} {st : Stmt} {f : Addr} {fd : FuncData} {N ps : List Str} {k : Nat} {F : SD} {g : FD} (Fu : Fun K x x st f fd) (Sc : FnScope N ps (defScope st)) (gm : mg x = some (.ref f)) (bd : Binds K fd ps [])
    (body : ∀ (cdv : Value) (A : Around) (outer : List PySem.Env) (s : Shared) (H : Hp) (E : XK), Room k (A.deeper (envOfC x (defScope st) s.heap.objs.size f cdv)) →
      DSs (cxOf (L2.CX P w) P w K mg base N x (defScope st) f cdv A outer s H E) (fun cls d _ H => E cls d H) (defBody st) F)
    (hg : ∀ ds S, ds.length = ps.length → ClS S.length S → (∀ d ∈ ds, ClD S.length d) → Dn S (F (start0 N ds) S) (g ds S)) : FnX P w K mg base (k + 1) x ps.length g := by
  refine ⟨f, fd, ps, rfl, gm, Fu.kp, bd, Fu.okX Sc (fun vs H Q E h => h.1) fun cdv A outer s H vs Q E hr h => ?_⟩
  obtain ⟨hl, κ, ds, S, m, rl, rd, po⟩ := h
  obtain ⟨t, pt, it⟩ := body cdv A outer s H E hr
  refine ⟨t, pt, it κ (start0 N ds) S (L2.start N vs) H m _ rl (RE_start rd) ?_⟩
  refine post_of (E := E) rl (hg ds S ((pairLen rd).trans hl) rl.cl (fun d hd => ?_)) po (fun _ _ _ _ z => z)
  have := pairAll (F := RD ⟨K, κ⟩ m S H) (P := ClD m.length) (fun _ _ q => q.cl) rd d hd
  rw [rl.len] at this
  exact this
end
section
variable {X : Cx} {W : WX} {m m1 : List Addr} {S S1 : Sto} {H H1 : Hp} {σ : St} {ρ : Env} {κ : Addr → Prop}
variable {a b c e o : Expr} {pos : Pos} {fa fb fe fo : ED} {es : List Expr} {ga : AD}
/-! ### calls -/
def eCall (n : Nat) (g : FD) (ga : AD) : ED := fun ρ S => (ga ρ S).bind fun ds S1 => if ds.length = n then noEx (g ds S1) else .st
def eCallX (n : Nat) (g : FD) (ga : AD) : ED := fun ρ S => (ga ρ S).bind fun ds S1 => if ds.length = n then g ds S1 else .st
theorem PostF.of {r : Rs D} {Q : VK} (h : Post X κ W m S H σ (RD (KX X κ)) r Q) : PostF (KX X κ) X.mg m S H r Q (fun c dd H' => W c dd σ H') := by
  cases r with
  | st => exact h
  | ok d S' => exact h
  | ex x S' => exact h
theorem PostF.no {r : Rs D} {Q : VK} {E : XK} (h : Post X κ W m S H σ (RD (KX X κ)) (noEx r) Q) : PostF (KX X κ) X.mg m S H (noEx r) Q E := by
  cases r with
  | st => exact h
  | ok d S' => exact h
  | ex x S' => exact h.elim
theorem de_call {k j n : Nat} {x : Str} {p : Pos} {g : FD} (F : FnD X.prog X.w X.K X.mg X.base k x n g) (hr : Room j X.A) (hk : k ≤ j) (hg : Gl X x) (ha : DA X W (e :: es) ga)
    (hd : (x == ("__debug__" : Str)) = false := by decide) (hs : starEach (e :: es) X.env = (false, eval e X.env) :: starEach es X.env := by rfl)
    (hp : (backTo pos (starEach es X.env)).any (·.1) = false := by rfl) : DE X W (.Call (.Name x p) (e :: es) [] pos) (eCall n g ga) := by
  obtain ⟨f, fd, ps, hl, gm, kp, bd, ok⟩ := F
  obtain ⟨t, q, i⟩ := ha
  refine ⟨_, pe_call ok (hr.mono hk) hg gm kp bd .nil pass0 q hd hs hp, fun κ ρ S σ H m Q rl re h => ?_⟩
  refine i.seq rl re h fun d S1 v H1 m1 x1 rl1 re1 r1 h1 => ?_
  split at h1
  · rename_i hn
    rw [List.append_nil]
    exact ⟨by rw [← pairLen r1]; exact hn, κ, d, S1, m1, rl1, r1, PostF.no h1⟩
  · exact h1.elim
theorem de_callX {k j n : Nat} {x : Str} {p : Pos} {g : FD} (F : FnX X.prog X.w X.K X.mg X.base k x n g) (tk : Takes X W) (hr : Room j X.A) (hk : k ≤ j) (hg : Gl X x) (ha : DA X W (e :: es) ga)
    (hd : (x == ("__debug__" : Str)) = false := by decide) (hs : starEach (e :: es) X.env = (false, eval e X.env) :: starEach es X.env := by rfl)
    (hp : (backTo pos (starEach es X.env)).any (·.1) = false := by rfl) : DE X W (.Call (.Name x p) (e :: es) [] pos) (eCallX n g ga) := by
  obtain ⟨f, fd, ps, hl, gm, kp, bd, ok⟩ := F
  obtain ⟨t, q, i⟩ := ha
  refine ⟨_, pe_callS (E := WE W) ok (hr.mono hk) hg gm kp bd (fun σ => passAt tk σ) q hd hs hp, fun κ ρ S σ H m Q rl re h => ?_⟩
  refine i.seq rl re h fun d S1 v H1 m1 x1 rl1 re1 r1 h1 => ?_
  split at h1
  · rename_i hn
    exact ⟨by rw [← pairLen r1]; exact hn, κ, d, S1, m1, rl1, r1, PostF.of h1⟩
  · exact h1.elim
/-! built-ins, by values -/
def CD (X : Cx) (W : WX) (f : Value) (g : FD) : Prop :=
  ∃ r : List V → Hp → VK → Prop, CallR X f r ∧ ∀ κ ds vs m S H σ Q, Rl (KX X κ) m S H → RDs (KX X κ) m S H ds vs → Post X κ W m S H σ (RD (KX X κ)) (g ds S) Q → r vs H Q
def eB (g : FD) (ga : AD) : ED := fun ρ S => (ga ρ S).bind fun ds S1 => g ds S1
theorem de_callB {x : Str} {p : Pos} {id : String} {g : FD} (c : CD X W (.builtin id) g) (hg : Gl X x) (hm : X.mg x = none) (hv : bootBuiltins x = some (.builtin id)) (ha : DA X W (e :: es) ga)
    (hn : x ≠ "__name__" := by decide) (hd : (x == ("__debug__" : Str)) = false := by decide) (hs : starEach (e :: es) X.env = (false, eval e X.env) :: starEach es X.env := by rfl)
    (hp : (backTo pos (starEach es X.env)).any (·.1) = false := by rfl) : DE X W (.Call (.Name x p) (e :: es) [] pos) (eB g ga) := by
  obtain ⟨r, cr, hr⟩ := c
  obtain ⟨t, q, i⟩ := ha
  refine ⟨_, pe_callB cr hg hm hv q hn hd hs hp, fun κ ρ S σ H m Q rl re h => ?_⟩
  exact i.seq rl re h fun d S1 v H1 m1 x1 rl1 re1 r1 h1 => hr κ d v m1 S1 H1 σ Q rl1 r1 h1
theorem de_callT {x : Str} {p : Pos} {T : String} {g : FD} (c : CD X W (.type T) g) (hg : Gl X x) (hm : X.mg x = none) (hv : bootBuiltins x = some (.type T)) (ha : DA X W (e :: es) ga)
    (hn : x ≠ "__name__" := by decide) (hd : (x == ("__debug__" : Str)) = false := by decide) (hs : starEach (e :: es) X.env = (false, eval e X.env) :: starEach es X.env := by rfl)
    (hp : (backTo pos (starEach es X.env)).any (·.1) = false := by rfl) : DE X W (.Call (.Name x p) (e :: es) [] pos) (eB g ga) := by
  obtain ⟨r, cr, hr⟩ := c
  obtain ⟨t, q, i⟩ := ha
  refine ⟨_, pe_callTy cr hg hm hv q hn hd hs hp, fun κ ρ S σ H m Q rl re h => ?_⟩
  exact i.seq rl re h fun d S1 v H1 m1 x1 rl1 re1 r1 h1 => hr κ d v m1 S1 H1 σ Q rl1 r1 h1
/-- len -/
def gLen : FD := fun ds S => match ds with
  | [.p (.str z)] => if z.length ≤ sizeLine then .ok (.int z.length) S else .st
  | [.p (.tuple l)] => .ok (.int l.length) S
  | [d] => (match lItems S d with | some l => .ok (.int l.length) S | none => .st)
  | _ => .st
theorem cd_len : CD X W (.builtin "len") gLen := by
  refine ⟨_, call_len, fun κ ds vs m S H σ Q rl rd h => ?_⟩
  unfold gLen at h
  split at h
  · split at h
    · rename_i z hl
      obtain ⟨v, rfl, r⟩ := RDs1 rd
      exact ⟨v, z.length, rfl, by rw [r.str]; exact ⟨hl, rfl⟩, h.ok' .refl rl RD.int_⟩
    · exact h.elim
  · rename_i l
    obtain ⟨v, rfl, r⟩ := RDs1 rd
    obtain ⟨p, ws, rfl, h1, h2⟩ := r.tup'
    exact ⟨_, l.length, rfl, .inr ⟨ws, h1, RPs_len h2⟩, h.ok' .refl rl RD.int_⟩
  · split at h
    · rename_i l e
      obtain ⟨v, rfl, r⟩ := RDs1 rd
      obtain ⟨p, ws, rfl, h1, h2⟩ := r.items rl e
      exact ⟨_, l.length, rfl, .inl ⟨ws, h1, pairLen h2⟩, h.ok' .refl rl RD.int_⟩
    · exact h.elim
  · exact h.elim
/-- int(x) of an int, a bool -/
def gToInt : FD := fun ds S => match ds with
  | [.p (.int i)] => .ok (.int i) S
  | [.p (.bool b)] => .ok (.int (if b then 1 else 0)) S
  | _ => .st
theorem cd_int : CD X W (.type "int") gToInt := by
  refine ⟨_, call_int1, fun κ ds vs m S H σ Q rl rd h => ?_⟩
  unfold gToInt at h
  split at h
  · obtain ⟨v, rfl, r⟩ := RDs1 rd
    exact .inl ⟨_, by rw [r.int], h.ok' .refl rl RD.int_⟩
  · obtain ⟨v, rfl, r⟩ := RDs1 rd
    exact .inr ⟨_, by rw [r.bl], h.ok' .refl rl RD.int_⟩
  · exact h.elim
def gToStr : FD := fun ds S => match ds with
  | [.p (.int i)] => if i.natAbs.log2 < 1920 then .ok (.str (toString i)) S else .st
  | _ => .st
theorem cd_str : CD X W (.type "str") gToStr := by
  refine ⟨_, call_str_int, fun κ ds vs m S H σ Q rl rd h => ?_⟩
  unfold gToStr at h
  split at h
  · split at h
    · rename_i i hl
      obtain ⟨v, rfl, r⟩ := RDs1 rd
      exact ⟨i, by rw [r.int], hl, h.ok' .refl rl RD.str_⟩
    · exact h.elim
  · exact h.elim
def gMin2 : FD := fun ds S => match ds with
  | [.p (.int i), .p (.int j)] => .ok (.int (if j < i then j else i)) S
  | _ => .st
def gMax2 : FD := fun ds S => match ds with
  | [.p (.int i), .p (.int j)] => .ok (.int (if j > i then j else i)) S
  | _ => .st
theorem cd_min2 (hc : X.calm = true) : CD X W (.builtin "min") gMin2 := by
  refine ⟨_, call_min2 hc, fun κ ds vs m S H σ Q rl rd h => ?_⟩
  unfold gMin2 at h
  split at h
  · obtain ⟨v, v', rfl, r, r'⟩ := RDs2 rd
    exact ⟨_, _, by rw [r.int, r'.int], h.ok' .refl rl RD.int_⟩
  · exact h.elim
theorem cd_max2 (hc : X.calm = true) : CD X W (.builtin "max") gMax2 := by
  refine ⟨_, call_max2 hc, fun κ ds vs m S H σ Q rl rd h => ?_⟩
  unfold gMax2 at h
  split at h
  · obtain ⟨v, v', rfl, r, r'⟩ := RDs2 rd
    exact ⟨_, _, by rw [r.int, r'.int], h.ok' .refl rl RD.int_⟩
  · exact h.elim
/-- list(x), tuple(x) -/
def seqP (S : Sto) : D → Option (List PyData)
  | .p (.tuple l) => some l
  | d => vList S d
def gToList : FD := fun ds S => match ds with
  | [d] => (match seqP S d with | some l => .ok (.lst l) S | none => .st)
  | _ => .st
/-- .. a list that will change -/
def seqD (S : Sto) : D → Option (List D)
  | .p (.tuple l) => some (l.map .p)
  | d => lItems S d
def gToListO : FD := fun ds S => match ds with
  | [d] => (match seqD S d with | some l => .ok (.ob S.length) (S ++ [.lst l]) | none => .st)
  | _ => .st
def gToTup : FD := fun ds S => match ds with
  | [.p (.tuple l)] => .ok (.tup l) S
  | [d] => (match vList S d with | some l => .ok (.tup l) S | none => .st)
  | _ => .st
theorem RD.seqP {d : D} {v : V} {l : List PyData} (r : Rl (KX X κ) m S H) (h : RD (KX X κ) m S H d v) (e : DL.seqP S d = some l) : ∃ a vs, v = .ref a ∧ (SqL X.K H a vs ∨ SqT X.K H a vs) ∧ RPs (KX X κ) H (lv (KX X κ) m S) l vs := by
  unfold DL.seqP at e
  split at e
  · cases e
    obtain ⟨p, vs, rfl, h1, h2⟩ := h.tup'
    exact ⟨p, vs, rfl, .inr h1, h2⟩
  · obtain ⟨p, vs, rfl, h1, h2⟩ := h.vlist r e
    exact ⟨p, vs, rfl, .inl (.of h1), h2⟩
theorem RD.seqD {d : D} {v : V} {l : List D} (r : Rl (KX X κ) m S H) (h : RD (KX X κ) m S H d v) (e : DL.seqD S d = some l) : ∃ a vs, v = .ref a ∧ (SqL X.K H a vs ∨ SqT X.K H a vs) ∧ RDs (KX X κ) m S H l vs := by
  unfold DL.seqD at e
  split at e
  · cases e
    obtain ⟨p, vs, rfl, h1, h2⟩ := h.tup
    exact ⟨p, vs, rfl, .inr h1, h2⟩
  · obtain ⟨p, vs, rfl, h1, h2⟩ := h.items r e
    exact ⟨p, vs, rfl, .inl h1, h2⟩
theorem cd_list : CD X W (.type "list") gToList := by
  refine ⟨_, call_list_of, fun κ ds vs m S H σ Q rl rd h => ?_⟩
  unfold gToList at h
  split at h
  · split at h
    · rename_i l e
      obtain ⟨v, rfl, r⟩ := RDs1 rd
      obtain ⟨p, ws, rfl, h1, h2⟩ := r.seqP rl e
      exact ⟨p, ws, rfl, h1, fun z hz => h.ok' (.new rl hz) (rl.new hz) (newL rl hz h2)⟩
    · exact h.elim
  · exact h.elim
theorem cd_listO : CD X W (.type "list") gToListO := by
  refine ⟨_, call_list_of, fun κ ds vs m S H σ Q rl rd h => ?_⟩
  unfold gToListO at h
  split at h
  · split at h
    · rename_i l e
      obtain ⟨v, rfl, r⟩ := RDs1 rd
      obtain ⟨p, ws, rfl, h1, h2⟩ := r.seqD rl e
      exact ⟨p, ws, rfl, h1, fun z hz => h.ok' (.push rl hz) (rl.pushL hz h2) (RD.push rl)⟩
    · exact h.elim
  · exact h.elim
theorem cd_tuple : CD X W (.type "tuple") gToTup := by
  refine ⟨_, call_tuple_of, fun κ ds vs m S H σ Q rl rd h => ?_⟩
  unfold gToTup at h
  split at h
  · obtain ⟨v, rfl, r⟩ := RDs1 rd
    obtain ⟨p, ws, rfl, h1, h2⟩ := r.tup'
    exact ⟨p, ws, rfl, .inr ⟨h1, h.ok' .refl rl (tup_of h1 h2)⟩⟩
  · split at h
    · rename_i l e
      obtain ⟨v, rfl, r⟩ := RDs1 rd
      obtain ⟨p, ws, rfl, h1, h2⟩ := r.vlist rl e
      exact ⟨p, ws, rfl, .inl ⟨.of h1, fun z hz => h.ok' (.new rl hz) (rl.new hz) (newT rl hz h2)⟩⟩
    · exact h.elim
  · exact h.elim
/-- isinstance(x, T), T a built-in type -/
def tyN : PyData → String
  | .none => "NoneType"
  | .bool _ => "bool"
  | .int _ => "int"
  | .str _ => "str"
  | .list _ => "list"
  | .tuple _ => "tuple"
  | .dict _ => "dict"
def tyD (S : Sto) : D → Option String
  | .p (.dict _) => none
  | .p d => some (tyN d)
  | .ob n => (match S[n]? with | some (.lst _) => some "list" | some (.fz _) => some "list" | some (.dic _) => some "dict" | _ => none)
  | _ => none
def eIsi (T : String) (f : ED) : ED := fun ρ S => (f ρ S).bind fun d S1 => match tyD S1 d with
  | some t => (match kitB t T with | some b => .ok (.bl b) S1 | none => .st)
  | none => .st
theorem RD.ty {d : D} {v : V} {t : String} (rl : Rl (KX X κ) m S H) (h : RD (KX X κ) m S H d v) (e : tyD S d = some t) : TyX X.K H v (.type t) := by
  unfold tyD at e
  split at e
  · cases e
  · rename_i d _
    cases e
    have h : RP _ _ _ _ _ := h
    cases d with
    | none => rw [RP] at h; subst h; exact .base .non
    | bool b => rw [RP] at h; subst h; exact .base (.bl b)
    | int i => rw [RP] at h; subst h; exact .base (.int i)
    | str x => rw [RP] at h; subst h; exact .base (.str x)
    | list l =>
      rw [RP] at h
      obtain ⟨a, vs, rfl, h1, _⟩ := h
      exact .base (.lst h1)
    | tuple l =>
      rw [RP] at h
      obtain ⟨a, vs, rfl, h1, _⟩ := h
      rcases h1 with h1 | ⟨o, _, _, h1, h2, _⟩
      · rcases h1 with h1 | ⟨o, h1⟩
        · exact .base (.tup h1)
        · exact .fTuple h1
      · exact .kTuple h1 h2
    | dict _ => rw [RP] at h; exact h.elim
  · obtain ⟨a, em, rfl⟩ := h
    split at e
    · rename_i es
      cases e
      obtain ⟨vs, h1, _⟩ := rl.obj _ a _ em es
      exact .base (.lst h1)
    · rename_i es
      cases e
      obtain ⟨vs, h1, _⟩ := rl.obj _ a _ em es
      exact .base (.lst h1)
    · rename_i es
      cases e
      obtain ⟨vs, h1, _⟩ := rl.obj _ a _ em es
      exact .base (.dT h1)
    · cases e
  · cases e
theorem de_isi {T : String} {x : Str} {p p2 : Pos} (hg : Gl X "isinstance") (hm : X.mg "isinstance" = none) (hgT : Gl X x) (hmT : X.mg x = none) (hvT : bootBuiltins x = some (.type T)) (he : DE X W e fe)
    (hv : bootBuiltins "isinstance" = some (.builtin "isinstance") := by decide +kernel) (hnT : x ≠ "__name__" := by decide) (hdT : (x == ("__debug__" : Str)) = false := by decide)
    (hs1 : starEach [e, .Name x p2] X.env = (false, eval e X.env) :: starEach [.Name x p2] X.env := by rfl) (hs2 : starEach [.Name x p2] X.env = (false, eval (.Name x p2) X.env) :: starEach [] X.env := by rfl)
    (hp : (backTo pos (starEach [.Name x p2] X.env)).any (·.1) = false := by rfl) :
    DE X W (.Call (.Name "isinstance" p) [e, .Name x p2] [] pos) (eIsi T fe) := by
  obtain ⟨t, q, i⟩ := he
  refine ⟨_, pe_callB call_isi hg hm hv (pa_cons q (pa_cons (pe_bltn (v := .ty T) hgT hmT hvT rfl hnT hdT) pa_nil hs2) hs1) (by decide) (by decide) hs1 hp, fun κ ρ S σ H m Q rl re h => ?_⟩
  refine i.seq rl re h fun d S1 v H1 m1 x1 rl1 re1 r1 h1 => ?_
  split at h1
  · rename_i t et
    split at h1
    · rename_i k ek
      exact ⟨v, .ty T, _, _, k, rfl, .ty T, r1.ty rl1 et, kit_ty ek, h1.ok' .refl rl1 RD.bl_⟩
    · exact h1.elim
  · exact h1.elim
end
end DL

namespace DL
open PySem PySem.Spec PyProof.Rows L2
section
variable {X : Cx} {W : WX} {m m1 : List Addr} {S S1 : Sto} {H H1 : Hp} {σ : St} {ρ : Env} {κ : Addr → Prop}
variable {a b c e o : Expr} {pos apos : Pos} {fa fb fe fo : ED} {es : List Expr} {ga : AD}
/-! ### methods -/
theorem ty_list {n : Nat} {v : V} {l : List D} (rl : Rl (KX X κ) m S H) (h : RD (KX X κ) m S H (.ob n) v) (es : S[n]? = some (.lst l)) : tyV X.K "list" v H := by
  obtain ⟨a, em, rfl⟩ := h
  obtain ⟨vs, q, _⟩ := rl.obj n a _ em es
  exact .inl ⟨rfl, vs, .of q⟩
/-- a list that stays one, wherever it is looked at -/
def isLst (S : Sto) : D → Bool
  | .p (.list _) => true
  | .ob n => (match S[n]? with | some (.lst _) => true | some (.fz _) => true | _ => false)
  | _ => false
theorem RD.isl {d : D} {v : V} (rl : Rl (KX X κ) m S H) (h : RD (KX X κ) m S H d v) (e : isLst S d = true) : tyV X.K "list" v H := by
  unfold isLst at e
  split at e
  · obtain ⟨a, vs, rfl, h1, _⟩ := h.lst
    exact .inl ⟨rfl, vs, .of h1⟩
  · obtain ⟨a, em, rfl⟩ := h
    split at e
    · rename_i es
      obtain ⟨vs, q, _⟩ := rl.obj _ a _ em es
      exact .inl ⟨rfl, vs, .of q⟩
    · rename_i es
      obtain ⟨vs, q, _⟩ := rl.obj _ a _ em es
      exact .inl ⟨rfl, vs, .of q⟩
    · cases e
  · cases e
/-- a method of a built-in type, by values: g of the receiver and the arguments -/
def MD (X : Cx) (W : WX) (id : String) (g : D → FD) : Prop :=
  ∃ r : V → List V → Hp → VK → Prop, MtR X id r ∧ ∀ κ x vx ds vs m S H σ Q, Rl (KX X κ) m S H → RD (KX X κ) m S H x vx → RDs (KX X κ) m S H ds vs → Post X κ W m S H σ (RD (KX X κ)) (g x ds S) Q → r vx vs H Q
def eMth (g : D → FD) (fo : ED) (ga : AD) : ED := fun ρ S => (fo ρ S).bind fun d S1 => if isLst S1 d = true then (ga ρ S1).bind fun ds S2 => g d ds S2 else .st
theorem de_mth {name : Str} {id : String} {g : D → FD} (md : MD X W id g) (slot : Slot "list" name id) (hty : typeOf (.builtin id) = pure (.type "method_descriptor")) (ho : DE X W o fo) (ha : DA X W (e :: es) ga)
    (hb : attributeBase o name X.env (eval o X.env) = eval o X.env := by rfl)
    (h1 : ((backTo pos (starEach (e :: es) X.env)).all (!·.1) && (backToKw pos (keywordEach [] X.env)).all (·.1.isSome) && decide ((e :: es).length + ([] : List Keyword).length + (if ([] : List Keyword).isEmpty then 0 else 1) < 30)) = true := by rfl)
    (h2 : (apos.endLine == pos.line) = true := by rfl) (hs : starEach (e :: es) X.env = (false, eval e X.env) :: starEach es X.env := by rfl) (hp : (backTo pos (starEach es X.env)).any (·.1) = false := by rfl) :
    DE X W (.Call (.Attribute o name apos) (e :: es) [] pos) (eMth g fo ga) := by
  obtain ⟨r, mr, hr⟩ := md
  obtain ⟨t1, p1, i1⟩ := ho
  obtain ⟨t2, p2, i2⟩ := ha
  refine ⟨_, pe_bm PySem.F.plainAttrs_list slot hty mr p1 p2 hb h1 h2 hs hp, fun κ ρ S σ H m Q rl re h => ?_⟩
  refine i1.seq rl re h fun d S1 v H1 m1 x1 rl1 re1 r1 h1 => ?_
  split at h1
  · rename_i el
    refine ⟨r1.isl rl1 el, ?_⟩
    refine i2.seq rl1 re1 h1 fun ds S2 vs H2 m2 x2 rl2 re2 r2 h2 => ?_
    exact hr κ d v ds vs m2 S2 H2 σ Q rl2 (r1.nx x2) r2 h2
  · exact h1.elim
theorem de_mth0 {name : Str} {id : String} {g : D → FD} (md : MD X W id g) (slot : Slot "list" name id) (hty : typeOf (.builtin id) = pure (.type "method_descriptor")) (ho : DE X W o fo)
    (hb : attributeBase o name X.env (eval o X.env) = eval o X.env := by rfl) (h2 : (apos.endLine == pos.line) = true := by rfl) :
    DE X W (.Call (.Attribute o name apos) [] [] pos) (eMth g fo aNil) := by
  obtain ⟨r, mr, hr⟩ := md
  obtain ⟨t1, p1, i1⟩ := ho
  refine ⟨_, pe_bm0 PySem.F.plainAttrs_list slot hty mr p1 hb h2, fun κ ρ S σ H m Q rl re h => ?_⟩
  refine i1.seq rl re h fun d S1 v H1 m1 x1 rl1 re1 r1 h1 => ?_
  split at h1
  · rename_i el
    exact ⟨r1.isl rl1 el, hr κ d v [] [] m1 S1 H1 σ Q rl1 r1 .nil h1⟩
  · exact h1.elim
theorem RDs_snoc {l : List D} {vs : List V} {d : D} {v : V} (h : RDs (KX X κ) m S H l vs) (h2 : RD (KX X κ) m S H d v) : RDs (KX X κ) m S H (l ++ [d]) (vs ++ [v]) := pairApp h (.cons h2 .nil)
/-- the list that changes, where it is one -/
def oLst (S : Sto) : D → Option (Nat × List D)
  | .ob n => (match S[n]? with | some (.lst l) => some (n, l) | _ => none)
  | _ => none
theorem oLst_some {S : Sto} {d : D} {n : Nat} {l : List D} (h : oLst S d = some (n, l)) : d = .ob n ∧ S[n]? = some (.lst l) := by
  unfold oLst at h
  split at h
  · split at h
    · rename_i es
      cases h
      exact ⟨rfl, es⟩
    · cases h
  · cases h
/-- xs.append(x) -/
def gApp : D → FD := fun d ds S => match ds with
  | [x] => (match restD x S with
    | some (p, S2) => (match oLst S2 d with
      | some (n, l) => if l.length < sizeLine then .ok .non (S2.set n (.lst (l ++ [.p p]))) else .st
      | none => .st)
    | none => .st)
  | _ => .st
theorem md_append : MD X W "list.append" gApp := by
  refine ⟨_, mt_append, fun κ x vx ds vs m S H σ Q rl rx rd h => ?_⟩
  unfold gApp at h
  split at h
  · obtain ⟨v, rfl, r⟩ := RDs1 rd
    split at h
    · rename_i p S2 ep
      obtain ⟨rl2, x2, r2⟩ := r.restD rl ep
      split at h
      · rename_i n l en
        obtain ⟨rfl, es⟩ := oLst_some en
        split at h
        · rename_i hl
          obtain ⟨a, em, rfl⟩ := rx
          obtain ⟨ws, q1, q2⟩ := rl2.obj n a _ em es
          refine ⟨a, ws, v, rfl, rfl, q1, by rw [← pairLen q2]; exact hl, ?_⟩
          exact h.ok' (x2.trans (Nx.put rl2 em es rfl)) (rl2.putL em es (RDs_snoc q2 r2)) RD.non_
        · exact h.elim
      · exact h.elim
    · exact h.elim
  · exact h.elim
/-- xs.extend(ys) -/
def gExt : D → FD := fun d ds S => match ds with
  | [y] => (match vList S y with
    | some l2 => (match oLst S d with
      | some (n, l) => if l.length + l2.length ≤ sizeLine then .ok .non (S.set n (.lst (l ++ l2.map .p))) else .st
      | none => .st)
    | none => .st)
  | _ => .st
theorem md_extend : MD X W "list.extend" gExt := by
  refine ⟨_, mt_extend, fun κ x vx ds vs m S H σ Q rl rx rd h => ?_⟩
  unfold gExt at h
  split at h
  · obtain ⟨v, rfl, r⟩ := RDs1 rd
    split at h
    · rename_i l2 el
      obtain ⟨b, ys, rfl, hb, r2⟩ := r.vlist rl el
      split at h
      · rename_i n l en
        obtain ⟨rfl, es⟩ := oLst_some en
        split at h
        · rename_i hl
          obtain ⟨a, em, rfl⟩ := rx
          obtain ⟨ws, q1, q2⟩ := rl.obj n a _ em es
          refine ⟨a, b, ws, ys, rfl, rfl, q1, hb, by rw [← pairLen q2, ← RPs_len r2]; exact hl, ?_⟩
          exact h.ok' (Nx.put rl em es rfl) (rl.putL em es (pairApp q2 (RDs_p.mpr r2))) RD.non_
        · exact h.elim
      · exact h.elim
    · exact h.elim
  · exact h.elim
/-- xs.pop() -/
def gPopL : D → FD := fun d ds S => match ds with
  | [] => (match oLst S d with
    | some (n, l) => (match l[l.length - 1]? with
      | some y => .ok y (S.set n (.lst l.dropLast))
      | none => .st)
    | none => .st)
  | _ => .st
theorem pairDropLast {α β : Type} {F : α → β → Prop} {l : List α} {r : List β} (q : Paired F l r) : Paired F l.dropLast r.dropLast := by
  rw [List.dropLast_eq_take, List.dropLast_eq_take, pairLen q]
  exact pairTake q _
theorem md_pop : MD X W "list.pop" gPopL := by
  refine ⟨_, mt_pop, fun κ x vx ds vs m S H σ Q rl rx rd h => ?_⟩
  unfold gPopL at h
  split at h
  · cases rd
    split at h
    · rename_i n l en
      obtain ⟨rfl, es⟩ := oLst_some en
      split at h
      · rename_i y ey
        obtain ⟨a, em, rfl⟩ := rx
        obtain ⟨ws, q1, q2⟩ := rl.obj n a _ em es
        obtain ⟨z, ez, rz⟩ := pairGet q2 ey
        refine ⟨a, ws, z, rfl, rfl, q1, by rw [← pairLen q2]; exact ez, ?_⟩
        have x2 := Nx.put (o' := .lst l.dropLast) (ho := .lst ws.dropLast) rl em es rfl
        exact h.ok' x2 (rl.putL em es (pairDropLast q2)) (rz.nx x2)
      · exact h.elim
    · exact h.elim
  · exact h.elim
/-- xs.reverse() -/
def gRevL : D → FD := fun d ds S => match ds with
  | [] => (match oLst S d with
    | some (n, l) => .ok .non (S.set n (.lst l.reverse))
    | none => .st)
  | _ => .st
theorem md_reverse : MD X W "list.reverse" gRevL := by
  refine ⟨_, mt_reverse, fun κ x vx ds vs m S H σ Q rl rx rd h => ?_⟩
  unfold gRevL at h
  split at h
  · cases rd
    split at h
    · rename_i n l en
      obtain ⟨rfl, es⟩ := oLst_some en
      obtain ⟨a, em, rfl⟩ := rx
      obtain ⟨ws, q1, q2⟩ := rl.obj n a _ em es
      exact ⟨a, ws, rfl, rfl, q1, h.ok' (Nx.put rl em es rfl) (rl.putL em es (pairRev q2)) RD.non_⟩
    · exact h.elim
  · exact h.elim
/-- xs.index(x): data -/
def gIdx : D → FD := fun d ds S => match ds with
  | [y] => (match vList S d, pNow S y with
    | some l, some p => if SeqAt.shaped (.list l) = true ∧ SeqAt.shaped p = true then (match l.findIdx? (fun z => PyData.eqv z p) with
      | some j => .ok (.int j) S
      | none => .st) else .st
    | _, _ => .st)
  | _ => .st
theorem md_index (hu : X.A.units + 65 < cLine) : MD X W "list.index" gIdx := by
  refine ⟨_, mt_indexD hu, fun κ x vx ds vs m S H σ Q rl rx rd h => ?_⟩
  unfold gIdx at h
  split at h
  · obtain ⟨v, rfl, r⟩ := RDs1 rd
    split at h
    · rename_i l p el ep
      split at h
      · rename_i hs
        split at h
        · rename_i j ej
          obtain ⟨a, ws, rfl, h1, h2⟩ := rx.vlist rl el
          obtain ⟨hj, e1, e2⟩ := List.findIdx?_eq_some_iff_getElem.mp ej
          refine ⟨a, v, p, l, j, l[j], rfl, rfl, .lst (.of h1) (RPs.dp _ _ h2), r.now rl ep, hs.1, hs.2, List.getElem?_eq_getElem hj, e1, fun k z hk ez => ?_, h.ok' .refl rl RD.int_⟩
          obtain ⟨h3, e3⟩ := List.getElem?_eq_some_iff.mp ez
          have := e2 k hk
          rw [e3] at this
          simpa using this
        · exact h.elim
      · exact h.elim
    · exact h.elim
  · exact h.elim
/-! texts' methods -/
def strsP : List PyData → Option (List Str)
  | [] => some []
  | .str z :: l => (strsP l).map (z :: ·)
  | _ :: _ => none
theorem strsP_some {κ : Kh} {L : Addr → Prop} : ∀ {l : List PyData} {zs : List Str} {vs : List V}, strsP l = some zs → RPs κ H L l vs → vs = zs.map V.str
  | [], zs, vs, h, r => by
    cases h
    rw [RPs] at r
    exact r
  | .str z :: l, zs, vs, h, r => by
    simp only [strsP, Option.map_eq_some_iff] at h
    obtain ⟨zs', h1, rfl⟩ := h
    rw [RPs] at r
    obtain ⟨v, vs', rfl, r1, r2⟩ := r
    rw [RP] at r1
    rw [r1, strsP_some h1 r2]
    rfl
def eJoin (fo fe : ED) : ED := fun ρ S => (fo ρ S).bind fun d S1 => match d with
  | .p (.str a) => (fe ρ S1).bind fun x S2 => (match seqP S2 x with
    | some l => (match strsP l with
      | some zs => if (zs.map (·.length)).sum + zs.length * a.length ≤ 16777216 then .ok (.str (Txt.join a zs)) S2 else .st
      | none => .st)
    | none => .st)
  | _ => .st
theorem de_join (ho : DE X W o fo) (he : DE X W e fe) (hs : starEach [e] X.env = [(false, eval e X.env)] := by rfl) (hb : attributeBase o "join" X.env (eval o X.env) = eval o X.env := by rfl) (hl : (apos.endLine == pos.line) = true := by rfl) :
    DE X W (.Call (.Attribute o "join" apos) [e] [] pos) (eJoin fo fe) := by
  obtain ⟨t1, p1, i1⟩ := ho
  obtain ⟨t2, p2, i2⟩ := he
  refine ⟨_, pe_join p1 p2 hs hb hl, fun κ ρ S σ H m Q rl re h => ?_⟩
  refine i1.seq rl re h fun d S1 v H1 m1 x1 rl1 re1 r1 h1 => ?_
  split at h1
  · rename_i a
    refine ⟨⟨a, r1.str⟩, ?_⟩
    refine i2.seq rl1 re1 h1 fun d2 S2 v2 H2 m2 x2 rl2 re2 r2 h2 => ?_
    split at h2
    · rename_i l el
      split at h2
      · rename_i zs ez
        split at h2
        · rename_i hz
          obtain ⟨p, vs, rfl, q1, q2⟩ := r2.seqP rl2 el
          have := strsP_some ez q2
          subst this
          exact ⟨a, p, zs, r1.str, rfl, q1, hz, h2.ok' .refl rl2 RD.str_⟩
        · exact h2.elim
      · exact h2.elim
    · exact h2.elim
  · exact h1.elim
end
end DL

namespace DL
open PySem PySem.Spec PyProof.Rows L2
section
variable {X : Cx} {W : WX} {m m1 : List Addr} {S S1 : Sto} {H H1 : Hp} {σ : St} {ρ : Env} {κ : Addr → Prop}
variable {a b c e o : Expr} {pos apos : Pos} {fa fb fe fo : ED} {es : List Expr} {ga : AD}
def flatD : PyData → Bool
  | .none => true
  | .bool _ => true
  | .int _ => true
  | .str _ => true
  | _ => false
/-- in a text (one sign), a list (data), a tuple (flat) -/
def gIn (neg : Bool) : D → D → Sto → Rs D := fun x y S => match x, y with
  | .p (.str t), .p (.str z) => (match t.cps.toList with
    | [c] => .ok (.bl (neg ^^ decide (c ∈ z.cps.toList))) S
    | _ => .st)
  | x, y => (match pNow S x, seqP S y with
    | some p, some l => if flatD p = true ∧ l.all flatD = true then .ok (.bl (neg ^^ l.any fun z => PyData.eqv z p)) S
        else if (vList S y).isSome = true ∧ SeqAt.shaped p = true ∧ SeqAt.shaped (.list l) = true then .ok (.bl (neg ^^ l.any fun z => PyData.eqv z p)) S else .st
    | _, _ => .st)
theorem flat_now {K : PySem.W.Frag} {d : PyData} {v : V} (h : Dp K H v d) (f : flatD d = true) : flatV v = true := by
  cases h <;> first | rfl | cases f
theorem eqv_now {K : PySem.W.Frag} {d d' : PyData} {v v' : V} (h : Dp K H v d) (h' : Dp K H v' d') (f : flatD d = true) (f' : flatD d' = true) : eqV v v' = PyData.eqv d d' := by
  cases h <;> cases h' <;> first | (cases f; done) | (cases f'; done) | rfl | simp [eqV, PyData.eqv, Bool.beq_eq_decide_eq]
theorem dps_pair {K : PySem.W.Frag} : ∀ {l : List PyData} {vs : List V}, DpAll K H vs l → Paired (fun d v => Dp K H v d) l vs
  | [], _, .nil => .nil
  | _ :: _, _, .cons h t => .cons h (dps_pair t)
theorem any_now {K : PySem.W.Frag} {p : PyData} {v : V} (h : Dp K H v p) (f : flatD p = true) : ∀ {l : List PyData} {vs : List V}, Paired (fun d v => Dp K H v d) l vs → l.all flatD = true → vs.all flatV = true ∧ inV v vs = l.any fun z => PyData.eqv z p
  | [], _, .nil, _ => ⟨rfl, rfl⟩
  | d :: l, _, .cons q t, e => by
    rw [List.all_cons, Bool.and_eq_true] at e
    obtain ⟨e1, e2⟩ := e
    obtain ⟨i1, i2⟩ := any_now h f t e2
    refine ⟨by rw [List.all_cons, flat_now q e1, i1]; rfl, ?_⟩
    unfold inV at i2 ⊢
    rw [List.any_cons, List.any_cons, i2, eqv_now q h e1 f]
theorem str_one {t : Str} {c : Nat} (h : t.cps.toList = [c]) : t = ⟨#[c]⟩ := by
  obtain ⟨⟨l⟩⟩ := t
  have : l = [c] := h
  rw [this]
theorem seq_vl {y : D} {l l' : List PyData} (h : seqP S y = some l) (h' : vList S y = some l') : l = l' := by
  unfold seqP at h
  split at h
  · cases h'
  · rw [h] at h'; exact Option.some.inj h'
theorem in_core {neg : Bool} {x y : D} {vx vy : V} {Q : VK} (rl : Rl (KX X κ) m S H) (rx : RD (KX X κ) m S H x vx) (ry : RD (KX X κ) m S H y vy) (h : Post X κ W m S H σ (RD (KX X κ)) (gIn neg x y S) Q) :
    (∃ (c : Nat) (z : Str), vx = .str ⟨#[c]⟩ ∧ vy = .str z ∧ Q (.bl (neg ^^ decide (c ∈ z.cps.toList))) H) ∨ rIn X.K neg vx vy H Q ∨
      ∃ d ds, Dp X.K H vx d ∧ Dp X.K H vy (.list ds) ∧ SeqAt.shaped d = true ∧ SeqAt.shaped (.list ds) = true ∧ Q (.bl (neg ^^ ds.any fun z => PyData.eqv z d)) H := by
  unfold gIn at h
  split at h
  · split at h
    · rename_i c ec
      exact .inl ⟨c, _, by rw [rx.str, str_one ec], ry.str, h.ok' .refl rl RD.bl_⟩
    · exact h.elim
  · split at h
    · rename_i p l ep el
      have dp := rx.now rl ep
      split at h
      · rename_i hf
        obtain ⟨q, vs, rfl, q1, q2⟩ := ry.seqP rl el
        obtain ⟨i1, i2⟩ := any_now dp hf.1 (dps_pair (RPs.dp _ _ q2)) hf.2
        refine .inr (.inl ⟨q, vs, rfl, q1, flat_now dp hf.1, i1, ?_⟩)
        rw [i2]
        have := h.ok' .refl rl RD.bl_
        cases neg with
        | true => rw [if_pos rfl]; simpa using this
        | false => rw [if_neg Bool.false_ne_true]; simpa using this
      · split at h
        · rename_i hs
          obtain ⟨l', el'⟩ := Option.isSome_iff_exists.mp hs.1
          have := seq_vl el el'
          subst this
          obtain ⟨q, vs, rfl, q1, q2⟩ := ry.vlist rl el'
          exact .inr (.inr ⟨p, l, dp, .lst (.of q1) (RPs.dp _ _ q2), hs.2.1, hs.2.2, h.ok' .refl rl RD.bl_⟩)
        · exact h.elim
    · exact h.elim
theorem od_in (hu : X.A.units + 65 < cLine) : OpD X W (compareOp .In) (gIn false) := by
  refine ⟨_, OpR.or op_in_sign (OpR.or op_in_seq (op_inD hu)), fun κ x y vx vy m S H σ Q rl rx ry h => ?_⟩
  rcases in_core rl rx ry h with ⟨c, z, e1, e2, q⟩ | q | ⟨d, ds, h1, h2, h3, h4, q⟩
  · exact .inl ⟨c, z, e1, e2, by simpa using q⟩
  · exact .inr (.inl q)
  · exact .inr (.inr ⟨d, ds, h1, h2, h3, h4, by simpa using q⟩)
theorem od_notin (hu : X.A.units + 65 < cLine) : OpD X W (compareOp .NotIn) (gIn true) := by
  refine ⟨_, OpR.or op_notIn_sign (OpR.or op_notIn_seq (op_notInD hu)), fun κ x y vx vy m S H σ Q rl rx ry h => ?_⟩
  rcases in_core rl rx ry h with ⟨c, z, e1, e2, q⟩ | q | ⟨d, ds, h1, h2, h3, h4, q⟩
  · exact .inl ⟨c, z, e1, e2, by simpa using q⟩
  · exact .inr (.inl q)
  · exact .inr (.inr ⟨d, ds, h1, h2, h3, h4, by simpa using q⟩)

/-! ### comprehensions -/
/-- the weakest reading that computes f -/
def can (X : Cx) (W : WX) {α β : Type} (R : Kh → List Addr → Sto → Hp → α → β → Prop) (f : Env → Sto → Rs α) : St → Hp → (β → Hp → Prop) → Prop := fun σ H Q =>
  ∃ κ ρ S m, Rl (KX X κ) m S H ∧ RE (KX X κ) m S H ρ σ ∧ Post X κ W m S H σ (R (KX X κ)) (f ρ S) Q
theorem DE.can (h : DE X W e fe) : PE X e (can X W RD fe) := by
  obtain ⟨t, p, i⟩ := h
  exact ⟨fun pins s σ H Q I ⟨κ, ρ, S, m, rl, re, h⟩ => p.run pins s σ H Q I (i κ ρ S σ H m Q rl re h)⟩
theorem DT.can {c : Expr} {f : BD} (h : DT X W c f) : PT X c (can X W RB f) := by
  obtain ⟨t, p, i⟩ := h
  exact ⟨fun pins s σ H Q I ⟨κ, ρ, S, m, rl, re, h⟩ => p.run pins s σ H Q I (i κ ρ S σ H m Q rl re h)⟩
/-- the tests of a comprehension -/
structure DTs (X : Cx) (W : WX) (ifs : List Expr) (f : BD) : Prop where
  run : PTs X ifs (DL.can X W RB f)
def bYes : BD := fun _ S => .ok true S
theorem dts_nil : DTs X W [] bYes := ⟨⟨fun pins s σ H Q I ⟨κ, ρ, S, m, rl, re, h⟩ => pts_nil.run pins s σ H Q I (h.ok' .refl rl rfl)⟩⟩
theorem dts_one {c : Expr} {f : BD} (h : DT X W c f) : DTs X W [c] f := ⟨pts_one h.can⟩
/-- a target that sets nothing but the slots vs -/
def canG (X : Cx) (vs : List Nat) (g : GD) : TG := fun v σ H Q => ∃ κ d ρ S m, Rl (KX X κ) m S H ∧ RE (KX X κ) m S H ρ σ ∧ RD (KX X κ) m S H d v ∧
  (match g d ρ S with
  | .ok ρ' S' => ∀ σ' H' m', Nx (KX X κ) m S H m' S' H' → Rl (KX X κ) m' S' H' → RE (KX X κ) m' S' H' ρ' σ' → wipe σ' vs = wipe σ vs → Q σ' H'
  | _ => False)
structure DGw (X : Cx) (tg : Expr) (vs : List Nat) (g : GD) : Prop where
  run : PG X tg (canG X vs g)
theorem wipe_set {σ : St} {i : Nat} {x : Option V} : ∀ {vs : List Nat}, i ∈ vs → wipe (σ.set i x) vs = wipe σ vs
  | v :: vs, h => by
    unfold wipe
    by_cases hv : i ∈ vs
    · rw [wipe_set hv]
    · have e : i = v := (List.mem_cons.mp h).resolve_right hv
      subst e
      clear h
      have key : ∀ vs : List Nat, i ∉ vs → wipe (σ.set i x) vs = (wipe σ vs).set i x := by
        intro vs
        induction vs with
        | nil => intro _; rfl
        | cons u us ih =>
          intro hn
          unfold wipe
          rw [ih fun z => hn (List.mem_cons_of_mem _ z)]
          rw [List.set_comm _ _ (fun z => hn (by rw [z]; exact List.mem_cons_self))]
      rw [key vs hv, List.set_set]
theorem dgw_name {i : Nat} {x : Str} {vs : List Nat} (hN : X.N.Nodup) (hi : X.N[i]? = some x) (hx : Loc X.env.scope x) (hv : i ∈ vs) (hf : X.fn x = true ∨ X.env.scope.names.lookup x = some .local := by first | exact .inl rfl | exact .inr rfl | assumption) : DGw X (.Name x pos) vs (gNm i) :=
  ⟨⟨fun pins s σ H v u Q I r ⟨κ, d, ρ, S, m, rl, re, rd, h⟩ => (pg_name hN hi hx hf).run pins s σ H v u Q I r (h _ H m .refl rl (pairSet re fun d' e => ⟨v, rfl, by cases e; exact rd⟩) (wipe_set hv))⟩⟩
/-- (a, b, ..) of names -/
def gNms : List Nat → GDs
  | [] => gsNil
  | i :: is => gsCons (gNm i) (gNms is)
theorem canGs_names {is vs : List Nat} (hv : ∀ i ∈ is, i ∈ vs) : ∀ {ds : List D} {ws : List V} {ρ : Env} {S : Sto} {σ : St} {H : Hp} {m : List Addr} {Q : St → Hp → Prop}, Rl (KX X κ) m S H → RE (KX X κ) m S H ρ σ → RDs (KX X κ) m S H ds ws →
    (match gNms is ds ρ S with
    | .ok ρ' S' => ∀ σ' H' m', Nx (KX X κ) m S H m' S' H' → Rl (KX X κ) m' S' H' → RE (KX X κ) m' S' H' ρ' σ' → wipe σ' vs = wipe σ vs → Q σ' H'
    | _ => False) → (is.foldr (fun i t => gCons (gName i) t) gNil) ws σ H Q := by
  induction is with
  | nil =>
    intro ds ws ρ S σ H m Q rl re rd h
    cases rd with
    | nil => exact ⟨rfl, h σ H m .refl rl re rfl⟩
    | cons _ _ => exact h.elim
  | cons i is ih =>
    intro ds ws ρ S σ H m Q rl re rd h
    cases rd with
    | nil => exact h.elim
    | cons q1 q2 =>
      rename_i d v ds ws
      refine ⟨v, ws, rfl, ?_⟩
      have re' : RE (KX X κ) m S H (ρ.set i (some d)) (σ.set i (some v)) := pairSet re fun d' e => ⟨v, rfl, by cases e; exact q1⟩
      refine ih (fun j hj => hv j (List.mem_cons_of_mem _ hj)) rl re' q2 ?_
      have e : gNms (i :: is) (d :: ds) ρ S = gNms is ds (ρ.set i (some d)) S := rfl
      rw [e] at h
      cases e2 : gNms is ds (ρ.set i (some d)) S with
      | st => rw [e2] at h; exact h.elim
      | ex _ _ => rw [e2] at h; exact h.elim
      | ok ρ' S' =>
        rw [e2] at h
        exact fun σ' H' m' x rl' re' wp => h σ' H' m' x rl' re' (wp.trans (wipe_set (hv i List.mem_cons_self)))
theorem dgw_tup {es : List Expr} {k n : Nat} {is vs : List Nat} (hc : X.calm = true) (hp : PGs X es (is.foldr (fun i t => gCons (gName i) t) gNil)) (hv : ∀ i ∈ is, i ∈ vs) (hn : (assignEach es X.env).length = n := by rfl) (hst : (assignEach es X.env).findIdx? (·.1) = none := by rfl) :
    DGw X (.Tuple es k pos) vs (gTupD n (gNms is)) := by
  refine ⟨⟨fun pins s σ H v u Q I r ⟨κ, d, ρ, S, m, rl, re, rd, h⟩ => (pg_tup hc hp hn hst).run pins s σ H v u Q I r ?_⟩⟩
  unfold gTupD at h
  split at h
  · rename_i ρ' S' e1
    split at e1
    · split at e1
      · rename_i l hl
        obtain ⟨q, ws, rfl, h1, h2⟩ := rd.tup
        refine ⟨q, ws, rfl, h1, by rw [← pairLen h2, List.length_map]; exact hl, canGs_names hv rl re h2 ?_⟩
        rw [e1]
        exact h
      · cases e1
    · cases e1
  · exact h.elim
theorem wipe_wipe (σ : St) {vs : List Nat} : ∀ us : List Nat, (∀ u ∈ us, u ∈ vs) → wipe (wipe σ us) vs = wipe σ vs
  | [], _ => rfl
  | u :: us, h => by
    show wipe ((wipe σ us).set u none) vs = _
    rw [wipe_set (h u List.mem_cons_self), wipe_wipe σ us fun v hv => h v (List.mem_cons_of_mem _ hv)]
def wipeE (ρ : Env) : List Nat → Env
  | [] => ρ
  | v :: vs => (wipeE ρ vs).set v none
theorem RE.wipe {ρ : Env} {σ : St} (re : RE (KX X κ) m S H ρ σ) : ∀ vs : List Nat, RE (KX X κ) m S H (wipeE ρ vs) (L2.wipe σ vs)
  | [] => re
  | v :: vs => pairSet (RE.wipe re vs) fun d e => by cases e
open Classical in
noncomputable def lcL (g : GD) (c : BD) (f : ED) (chk : Sto → Prop) (ρ : Env) : List D → List PyData → Sto → Option (List PyData × Sto)
  | [], acc, S => some (acc, S)
  | d :: ds, acc, S => match g d ρ S with
    | .ok ρ1 S1 => (match c ρ1 S1 with
      | .ok true S2 => (match f ρ1 S2 with
        | .ok y S3 => (match restD y S3 with
          | some (p, S4) => if acc.length < sizeLine ∧ chk S4 then lcL g c f chk ρ ds (acc ++ [p]) S4 else none
          | none => none)
        | _ => none)
      | .ok false S2 => if chk S2 then lcL g c f chk ρ ds acc S2 else none
      | _ => none)
    | _ => none
def okL (r : Option (List PyData × Sto)) : Rs D := match r with
  | some (l, S) => .ok (.lst l) S
  | none => .st
noncomputable def eLc (i : Env → Sto → Rs IDt) (g : GD) (c : BD) (f : ED) (vs : List Nat) : ED := fun ρ S => (i ρ S).bind fun d S1 => okL (lcL g c f d.2 (wipeE ρ vs) d.1 [] S1)
theorem imp_lc {wi : TI} {fi : Env → Sto → Rs IDt} {g : GD} {c : BD} {f : ED} {vs : List Nat} (ii : Imp X W (fun K m S H (d : IDt) (J : It) => ItOk K m S H J d.1 d.2) wi fi) :
    Imp X W RD (tLc wi (canG X vs g) (can X (fun _ _ _ _ => False) RB c) (can X (fun _ _ _ _ => False) RD f) vs) (eLc fi g c f vs) := by
  intro κ ρ S σ H m Q rl re h
  refine ii.seq rl re h fun d S1 J H1 m1 x1 rl1 re1 iok h1 => ?_
  obtain ⟨ds, chk⟩ := d
  have iok : ItOk (KX X κ) m1 S1 H1 J ds chk := iok
  intro L hL
  have hnk : ¬ κ L := fun z => by
    obtain ⟨u, e, _⟩ := (rl1.hid L z).2
    rw [hL] at e; cases e
  let κ' : Addr → Prop := fun a => κ a ∨ a = L
  have hsub : ∀ a, κ' a → κ a ∨ H1 a = none := fun a z => z.elim .inl fun z => .inr (by rw [z]; exact hL)
  have hL' : κ' L := .inr rfl
  -- the state between two turns
  let St' : Nat → Hp → Prop := fun i H2 => ∃ S2 m2 acc ws, Nx (KX X κ) m1 S1 H1 m2 S2 H2 ∧ Rl (KX X κ') m2 S2 H2 ∧ chk S2 ∧ H2 L = some (.lst ws) ∧ RPs (KX X κ') H2 (lv (KX X κ') m2 S2) acc ws ∧
    Post X κ W m1 S1 H1 σ (RD (KX X κ)) (okL (lcL g c f chk (wipeE ρ vs) (ds.drop i) acc S2)) Q
  refine ⟨fun i n H2 => n = ds.length - i ∧ i ≤ ds.length ∧ St' i H2, ⟨ds.length, by simp, Nat.zero_le _, S1, m1, [], [], Nx.new rl1 hL, rl1.hide hL trivial, iok.here, upd_same, by rw [RPs], h1⟩, ?_⟩
  rintro i n H2 ⟨rfl, hi, S2, m2, acc, ws, x2, rl2, ck, eL, racc, h2⟩
  by_cases hlt : i < ds.length
  · have ed : ds.drop i = ds[i] :: ds.drop (i + 1) := List.drop_eq_getElem_cons hlt
    rw [ed] at h2
    obtain ⟨hgo, hy⟩ := iok.go κ' m2 S2 H2 i ds[i] hsub x2 rl2 ck (List.getElem?_eq_getElem hlt)
    refine .inr ⟨hgo, fun H' => i + 1 ≤ ds.length ∧ St' (i + 1) H', fun H' z => ⟨ds.length - (i + 1), by omega, rfl, z.1, z.2⟩, fun x H'' y => ?_⟩
    obtain ⟨x3, rl3, r3⟩ := hy x H'' y
    have re3 : RE (KX X κ') m2 S2 H'' (wipeE ρ vs) (L2.wipe σ vs) := (RE.nxh (K := KX X κ) x2 hsub (RE.wipe re1 vs)).nx x3
    unfold lcL at h2
    refine ⟨κ', ds[i], wipeE ρ vs, S2, m2, rl3, re3, r3, ?_⟩
    cases e1 : g ds[i] (wipeE ρ vs) S2 with
    | st => simp only [e1] at h2; exact h2.elim
    | ex _ _ => simp only [e1] at h2; exact h2.elim
    | ok ρ4 S4 =>
      simp only [e1] at h2
      intro σ4 H4 m4 x4 rl4 re4 wp
      refine ⟨wp.trans (wipe_wipe σ vs (fun _ z => z)), κ', ρ4, S4, m4, rl4, re4, ?_⟩
      cases e2 : c ρ4 S4 with
      | st => simp only [e2] at h2; exact h2.elim
      | ex _ _ => simp only [e2] at h2; exact h2.elim
      | ok b S5 =>
        intro b' H5 m5 x5 rl5 eb
        have eb : b = b' := eb
        subst eb
        have x25 := x3.trans (x4.trans x5)
        cases b with
        | true =>
          simp only [e2] at h2
          rw [if_pos rfl]
          refine ⟨κ', ρ4, S5, m5, rl5, re4.nx x5, ?_⟩
          cases e3 : f ρ4 S5 with
          | st => simp only [e3] at h2; exact h2.elim
          | ex _ _ => simp only [e3] at h2; exact h2.elim
          | ok y5 S6 =>
            simp only [e3] at h2
            intro v6 H6 m6 x6 rl6 r6
            cases e4 : restD y5 S6 with
            | none => simp only [e4] at h2; exact h2.elim
            | some pr =>
              obtain ⟨p, S7⟩ := pr
              simp only [e4] at h2
              by_cases hk : acc.length < sizeLine ∧ chk S7
              · rw [if_pos hk] at h2
                obtain ⟨rl7, x7, r7⟩ := r6.restD rl6 e4
                have x27 := x25.trans (x6.trans x7)
                have eL6 : H6 L = some (.lst ws) := (x27.hid L hL').trans eL
                have ra6 := racc.nx x27
                refine ⟨ws, eL6, by rw [← RPs_len ra6]; exact hk.1, hlt, S7, m6, acc ++ [p], ws ++ [v6], ?_, rl7.hidw hL' trivial, hk.2, upd_same, ?_, h2⟩
                · exact Nx.hidw (x2.hidden (h' := κ') x27 (fun a z => .inl z) hsub) hL ⟨_, eL6, trivial⟩ hnk
                · have hm := hid_upd_lst (o := .lst (ws ++ [v6])) rl7 hL'
                  have ht : ∀ a us, SqT X.K H6 a us → SqT X.K (upd H6 L (.lst (ws ++ [v6]))) a us := fun a us h => sqT_upd (K := KX X κ') h (.inr ⟨_, eL6, trivial⟩)
                  exact RPs.mono (K := KX X κ') ht hm _ _ (RPs_app ra6 (RPs_iff.mpr (.cons r7 .nil)))
              · rw [if_neg hk] at h2; exact h2.elim
        | false =>
          simp only [e2] at h2
          rw [if_neg Bool.false_ne_true]
          by_cases hk : chk S5
          · rw [if_pos hk] at h2
            refine ⟨hlt, S5, m5, acc, ws, x2.hidden (h' := κ') x25 (fun a z => .inl z) hsub, rl5, hk, (x25.hid L hL').trans eL, racc.nx x25, h2⟩
          · rw [if_neg hk] at h2; exact h2.elim
  · have e0 : ds.drop i = [] := List.drop_eq_nil_of_le (Nat.le_of_not_lt hlt)
    rw [e0] at h2
    refine .inl ⟨iok.stop κ' m2 S2 H2 i hsub x2 rl2 ck (Nat.le_of_not_lt hlt), ?_⟩
    refine h2 (.ref L) H2 m2 x2 (Rl.unh (K := KX X κ') (h' := κ) (fun a z => .inl z) rl2) ?_
    show RP _ _ _ _ _
    rw [RP]
    refine ⟨L, ws, rfl, eL, ?_, ?_⟩
    · rintro (z | ⟨k, o, z1, z2, z3⟩)
      · exact hnk z
      · exact (rl2.hid L hL').1 (List.mem_of_getElem? z1)
    · have := RDs_p.mpr racc
      exact RDs_p.mp (pairMono (fun _ _ => RD.unh (K := KX X κ') (h' := κ) (fun a z => .inl z)) this)
section
variable {elt tg iter : Expr} {ifs : List Expr} {scope : Scope} {own : List (Str × Nat)} {fi : Env → Sto → Rs IDt} {g : GD} {c : BD} {f : ED}
theorem de_lc (hc : X.calm = true) (hN : X.N.Nodup) (hi : DI X W tg iter fi) (ok : BlkOk X.N X.env.scope scope own)
    (hg : ∀ (s : Shared) (H : Hp) (C : Addr) (cl : List (Str × Addr)) (fp : List Addr), DGw (X.blk s H scope (compEnvC scope cl C X.env) fp) tg (own.map fun x => x.2) g)
    (ht : ∀ (s : Shared) (H : Hp) (C : Addr) (cl : List (Str × Addr)) (fp : List Addr), DTs (X.blk s H scope (compEnvC scope cl C X.env) fp) (fun _ _ _ _ => False) ifs c)
    (he : ∀ (s : Shared) (H : Hp) (C : Addr) (cl : List (Str × Addr)) (fp : List Addr), DE (X.blk s H scope (compEnvC scope cl C X.env) fp) (fun _ _ _ _ => False) elt f)
    (hs : ∀ x, foldedSetIterable iter X.env x = pure x := by intro _; rfl) : DE X W (.ListComp elt [⟨tg, iter, ifs, 0⟩] scope pos) (eLc fi g c f (own.map fun x => x.2)) := by
  obtain ⟨wi, pi, ii⟩ := hi
  exact ⟨_, @pe_lc X elt tg iter ifs scope own pos wi (canG X (List.map (fun (x : Str × Nat) => x.2) own) g) (can X (fun _ _ _ _ => False) RB c) (can X (fun _ _ _ _ => False) RD f) hc hN pi ok (fun s H C cl fp => (hg s H C cl fp).run) (fun s H C cl fp => (ht s H C cl fp).run) (fun s H C cl fp => (he s H C cl fp).can) hs, imp_lc ii⟩
theorem ds_setLc (i : Nat) {y : Str} {py spos : Pos} (hN : X.N.Nodup) (hi : DI X W tg iter fi) (ok : BlkOk X.N X.env.scope scope own)
    (hg : ∀ (s : Shared) (H : Hp) (C : Addr) (cl : List (Str × Addr)) (fp : List Addr), DGw (X.blk s H scope (compEnvC scope cl C X.env) fp) tg (own.map fun x => x.2) g)
    (ht : ∀ (s : Shared) (H : Hp) (C : Addr) (cl : List (Str × Addr)) (fp : List Addr), DTs (X.blk s H scope (compEnvC scope cl C X.env) fp) (fun _ _ _ _ => False) ifs c)
    (he : ∀ (s : Shared) (H : Hp) (C : Addr) (cl : List (Str × Addr)) (fp : List Addr), DE (X.blk s H scope (compEnvC scope cl C X.env) fp) (fun _ _ _ _ => False) elt f)
    (hc : X.calm = true := by rfl) (hy : X.N[i]? = some y := by rfl) (hyl : X.env.scope.names.lookup y = some .local := by rfl) (hsw : swapsWith (.ListComp elt [⟨tg, iter, ifs, 0⟩] scope pos) (some (.Name y py)) spos.line X.env = pure true := by exact sw_true rfl rfl rfl (by decide +kernel))
    (hs : ∀ x, foldedSetIterable iter X.env x = pure x := by intro _; rfl) : DS X W (.Assign [.Name y py] (.ListComp elt [⟨tg, iter, ifs, 0⟩] scope pos) spos) (sSet i (eLc fi g c f (own.map fun x => x.2))) := by
  obtain ⟨wi, pi, ii⟩ := hi
  refine ⟨_, @ps_setLc X i y py elt tg iter ifs scope own pos spos wi (canG X (List.map (fun (x : Str × Nat) => x.2) own) g) (can X (fun _ _ _ _ => False) RB c) (can X (fun _ _ _ _ => False) RD f) hc hN hy hyl hsw pi ok (fun s H C cl fp => (hg s H C cl fp).run) (fun s H C cl fp => (ht s H C cl fp).run) (fun s H C cl fp => (he s H C cl fp).can) hs, fun κ ρ S σ H m Dn rl re h => ?_⟩
  refine (imp_lc ii).seqS rl re h fun d S1 v H1 m1 x1 rl1 re1 r1 h1 => ?_
  exact h1 _ H1 m1 .refl rl1 (pairSet re1 fun d' e => ⟨v, rfl, by cases e; exact r1⟩)
end
end
end DL

namespace DL
open PySem PySem.Spec PyProof.Rows L2
section
variable {X : Cx} {W : WX} {e : Expr} {pos : Pos} {fe : ED} {es : List Expr} {ga : AD}
/-- slot i -/
theorem dv (i : Nat) {x : Str} {pos : Pos} (hN : X.N[i]? = some x := by rfl) (hv : Vis X.env.scope x := by first | exact Or.inl rfl | exact Or.inr (Or.inl rfl) | exact Or.inr (Or.inr rfl)) (hd : (x == ("__debug__" : Str)) = false := by decide)
    (hcd : (x == ("__classdict__" : Str)) = false := by decide) : DE X W (.Name x pos) (eVar i) := de_var hN hv hd hcd
/-- a number that the module names -/
theorem de_globI {x : Str} {i : Int} (hg : Gl X x) (hm : ∃ t, X.mg x = some (.int i t)) (hd : (x == ("__debug__" : Str)) = false := by decide) : DE X W (.Name x pos) (eC (.int i)) := by
  obtain ⟨t, hm⟩ := hm
  refine ⟨tC (.int i), pe_glob hg hm ⟨t, rfl⟩ hd, fun κ ρ S σ H m Q rl re h => h.ok' .refl rl RD.int_⟩
theorem dset (i : Nat) {x : Str} {pos' : Pos} (hN : X.N.Nodup) (he : DE X W e fe) (hi : X.N[i]? = some x := by rfl) (hx : Loc X.env.scope x := by first | exact Or.inl rfl | exact Or.inr rfl) (hs : swapsWith e (some (.Name x pos')) pos.line X.env = pure false := by rfl)
    (hf : X.fn x = true ∨ X.env.scope.names.lookup x = some .local := by first | exact .inl rfl | exact .inr rfl) : DS X W (.Assign [.Name x pos'] e pos) (sSet i fe) := ds_set hN hi hx he hs hf
theorem daug (i : Nat) {x : Str} {op : Operator} {pos' : Pos} {g : D → D → Sto → Rs D} (hN : X.N.Nodup) (he : DE X W e fe) (ho : OpD X W (inplaceOp op) g) (hi : X.N[i]? = some x := by rfl) (hx : Loc X.env.scope x := by first | exact Or.inl rfl | exact Or.inr rfl)
    (hf : X.fn x = true ∨ X.env.scope.names.lookup x = some .local := by first | exact .inl rfl | exact .inr rfl) : DS X W (.AugAssign (.Name x pos') op e pos) (sAug i fe g) := ds_aug hN hi hx he ho hf
theorem dgn (i : Nat) {x : Str} (hN : X.N.Nodup) (hi : X.N[i]? = some x := by rfl) (hx : Loc X.env.scope x := by first | exact Or.inl rfl | exact Or.inr rfl) (hf : X.fn x = true ∨ X.env.scope.names.lookup x = some .local := by first | exact .inl rfl | exact .inr rfl) : DG X W (.Name x pos) (gNm i) := dg_name hN hi hx hf
theorem dgw (i : Nat) {x : Str} {vs : List Nat} (hN : X.N.Nodup) (hv : i ∈ vs) (hi : X.N[i]? = some x := by rfl) (hx : Loc X.env.scope x := by first | exact Or.inl rfl | exact Or.inr rfl) (hf : X.fn x = true ∨ X.env.scope.names.lookup x = some .local := by first | exact .inl rfl | exact .inr rfl) : DGw X (.Name x pos) vs (gNm i) := dgw_name hN hi hx hv hf
theorem pgn (i : Nat) {x : Str} (hN : X.N.Nodup) (hi : X.N[i]? = some x := by rfl) (hx : Loc X.env.scope x := by first | exact Or.inl rfl | exact Or.inr rfl) (hf : X.fn x = true ∨ X.env.scope.names.lookup x = some .local := by first | exact .inl rfl | exact .inr rfl) : PG X (.Name x pos) (gName i) := pg_name hN hi hx hf
end
end DL

/-! how the words come out, step by step (for simp) -/
namespace DL
open PySem PySem.Spec PyProof.Rows L2
section
variable {ρ : Env} {S : Sto} {f g h : ED} {ga : AD} {x y : D} {i j : Int} {k n : Nat} {b c : BD} {d e : PyData} {l l' : List PyData} {ds : List D} {s t : SD}
def oRs {α : Type} (o : Option α) (S : Sto) : Rs α := match o with
  | some a => .ok a S
  | none => .st
@[simp] theorem oRs_some {α : Type} (a : α) (S : Sto) : oRs (some a) S = .ok a S := rfl
@[simp] theorem oRs_none {α : Type} (S : Sto) : oRs (none : Option α) S = .st := rfl
@[simp] theorem Rs.bind_st {α β : Type} (f : α → Sto → Rs β) : Rs.bind .st f = .st := rfl
@[simp] theorem liftS_st {α : Type} (ρ : Env) (k : α → Sto → Out) : liftS ρ .st k = .st := rfl
@[simp] theorem liftS_ex {α : Type} (ρ : Env) (x : Xc) (S : Sto) (k : α → Sto → Out) : liftS ρ (.ex x S) k = .ex x ρ S := rfl
@[simp] theorem Rs.bind_ex {α β : Type} (x : Xc) (S : Sto) (f : α → Sto → Rs β) : Rs.bind (.ex x S) f = .ex x S := rfl
@[simp] theorem eVar_ap : eVar k ρ S = oRs (ρ[k]?.join) S := by
  unfold eVar
  cases h : ρ[k]? with
  | none => rfl
  | some o => cases o <;> rfl
@[simp] theorem eC_ap : eC d ρ S = .ok (.p d) S := rfl
@[simp] theorem eBin_ap {o : D → D → Sto → Rs D} : eBin o f g ρ S = (f ρ S).bind fun x S1 => (g ρ S1).bind fun y S2 => o x y S2 := rfl
def isB : D → Option Bool
  | .p (.bool b) => some b
  | _ => none
@[simp] theorem isB_bl {b : Bool} : isB (.p (.bool b)) = some b := rfl
@[simp] theorem asB_ap : asB f ρ S = (f ρ S).bind fun x S1 => oRs (isB x) S1 := by
  unfold asB
  congr 1
  funext x S1
  cases x with
  | p d => cases d <;> rfl
  | ob _ => rfl
  | scr _ => rfl
  | xc _ _ _ => rfl
@[simp] theorem eChain_ap {o o' : D → D → Sto → Rs D} : eChain o o' f g h ρ S = (f ρ S).bind fun x S1 => (g ρ S1).bind fun y S2 => (o x y S2).bind fun z S3 => match z with
  | .p (.bool true) => (h ρ S3).bind fun w S4 => o' y w S4
  | .p (.bool false) => .ok (.bl false) S3
  | _ => .st := rfl
@[simp] theorem bAnd_ap : bAnd b c ρ S = (b ρ S).bind fun x S1 => if x = true then c ρ S1 else .ok false S1 := rfl
@[simp] theorem bOr_ap : bOr b c ρ S = (b ρ S).bind fun x S1 => if x = true then .ok true S1 else c ρ S1 := rfl
@[simp] theorem bNot_ap : bNot b ρ S = (b ρ S).bind fun x S1 => .ok (!x) S1 := rfl
@[simp] theorem bTru_ap : bTru f ρ S = (f ρ S).bind fun x S1 => oRs (truD S1 x) S1 := by
  unfold bTru
  congr 1
  funext x S1
  cases truD S1 x <;> rfl
@[simp] theorem eAnd_ap : eAnd f g ρ S = (f ρ S).bind fun x S1 => match x with
  | .p (.bool true) => g ρ S1
  | .p (.bool false) => .ok (.bl false) S1
  | _ => .st := rfl
@[simp] theorem eOr_ap : eOr f g ρ S = (f ρ S).bind fun x S1 => match x with
  | .p (.bool false) => g ρ S1
  | .p (.bool true) => .ok (.bl true) S1
  | _ => .st := rfl
@[simp] theorem eNot_ap : eNot f ρ S = (f ρ S).bind fun x S1 => match x with
  | .p (.bool b) => .ok (.bl (!b)) S1
  | _ => .st := rfl
@[simp] theorem eNeg_ap : eNeg f ρ S = (f ρ S).bind fun x S1 => match x with
  | .p (.int i) => .ok (.int (-i)) S1
  | _ => .st := rfl
@[simp] theorem eIf_ap : eIf b f g ρ S = (b ρ S).bind fun x S1 => if x = true then f ρ S1 else g ρ S1 := rfl
@[simp] theorem aNil_ap : aNil ρ S = .ok [] S := rfl
@[simp] theorem aCons_ap : aCons f ga ρ S = (f ρ S).bind fun x S1 => (ga ρ S1).bind fun xs S2 => .ok (x :: xs) S2 := rfl
@[simp] theorem eTup_ap : eTup ga ρ S = (ga ρ S).bind fun ds S1 => match restAll ds S1 with
  | some (l, S2) => if l.length ≤ sizeLine then .ok (.tup l) S2 else .st
  | none => .st := rfl
@[simp] theorem eLst_ap : eLst ga ρ S = (ga ρ S).bind fun ds S1 => match restAll ds S1 with
  | some (l, S2) => if l.length ≤ sizeLine then .ok (.lst l) S2 else .st
  | none => .st := rfl
@[simp] theorem eLstO_ap : eLstO ga ρ S = (ga ρ S).bind fun ds S1 => if ds.length ≤ sizeLine then .ok (.ob S1.length) (S1 ++ [.lst ds]) else .st := rfl
@[simp] theorem eB_ap {o : FD} : eB o ga ρ S = (ga ρ S).bind fun ds S1 => o ds S1 := rfl
@[simp] theorem eCall_ap {o : FD} : eCall n o ga ρ S = (ga ρ S).bind fun ds S1 => if ds.length = n then noEx (o ds S1) else .st := rfl
@[simp] theorem eMth_ap {o : D → FD} : eMth o f ga ρ S = (f ρ S).bind fun d S1 => if isLst S1 d = true then (ga ρ S1).bind fun ds S2 => o d ds S2 else .st := rfl
@[simp] theorem eIsi_ap {T : String} : eIsi T f ρ S = (f ρ S).bind fun d S1 => match tyD S1 d with
  | some t => (match kitB t T with | some b => .ok (.bl b) S1 | none => .st)
  | none => .st := rfl
@[simp] theorem eSl_ap {lo hi : Env → Sto → Rs (Option Int)} : eSl f lo hi ρ S = (f ρ S).bind fun x S1 => (lo ρ S1).bind fun lo S2 => (hi ρ S2).bind fun hi S3 => gSl x lo hi S3 := rfl
@[simp] theorem oNone_ap : oNone ρ S = .ok none S := rfl
@[simp] theorem oSome_ap : oSome f ρ S = (f ρ S).bind fun x S1 => match x with
  | .p (.int i) => .ok (some i) S1
  | _ => .st := rfl
@[simp] theorem eLc_ap {fi : Env → Sto → Rs IDt} {gt : GD} {vs : List Nat} : eLc fi gt b f vs ρ S = (fi ρ S).bind fun d S1 => okL (lcL gt b f d.2 (wipeE ρ vs) d.1 [] S1) := rfl
@[simp] theorem okL_some : okL (some (l, S)) = .ok (.lst l) S := rfl
def seqO (o : Out) (t : SD) : Out := match o with
  | .nx ρ1 S1 => t ρ1 S1
  | o => o
@[simp] theorem seqO_nx : seqO (.nx ρ S) t = t ρ S := rfl
@[simp] theorem seqO_rt : seqO (.rt x S) t = .rt x S := rfl
@[simp] theorem seqO_bk : seqO (.bk ρ S) t = .bk ρ S := rfl
@[simp] theorem seqO_ct : seqO (.ct ρ S) t = .ct ρ S := rfl
@[simp] theorem seqO_ex {x : Xc} : seqO (.ex x ρ S) t = .ex x ρ S := rfl
@[simp] theorem sSeq_ap : sSeq s t ρ S = seqO (s ρ S) t := rfl
@[simp] theorem sNil_ap : sNil ρ S = .nx ρ S := rfl
@[simp] theorem sBrk_ap : sBrk ρ S = .bk ρ S := rfl
@[simp] theorem sCnt_ap : sCnt ρ S = .ct ρ S := rfl
@[simp] theorem sExpr_ap : sExpr f ρ S = liftS ρ (f ρ S) fun _ S1 => .nx ρ S1 := rfl
def rtO (o : Option (PyData × Sto)) : Out := match o with
  | some (p, S2) => .rt (.p p) S2
  | none => .st
@[simp] theorem rtO_some : rtO (some (d, S)) = .rt (.p d) S := rfl
@[simp] theorem sRetR_ap : sRetR f ρ S = liftS ρ (f ρ S) fun d S1 => rtO (restD d S1) := rfl
@[simp] theorem sRetN_ap : sRetN ρ S = .rt .non S := rfl
@[simp] theorem sIf_ap : sIf b s t ρ S = liftS ρ (b ρ S) fun b S1 => if b = true then s ρ S1 else t ρ S1 := rfl
@[simp] theorem sSet_ap : sSet k f ρ S = liftS ρ (f ρ S) fun d S1 => .nx (ρ.set k (some d)) S1 := rfl
def nxG (r : Rs Env) : Out := match r with
  | .ok ρ1 S2 => .nx ρ1 S2
  | _ => .st
@[simp] theorem nxG_ok : nxG (.ok ρ S) = .nx ρ S := rfl
@[simp] theorem sAsg_ap {gt : GD} : sAsg f gt ρ S = liftS ρ (f ρ S) fun d S1 => nxG (gt d ρ S1) := by
  unfold sAsg
  congr 1
@[simp] theorem sAug_ap {o : D → D → Sto → Rs D} : sAug k f o ρ S = liftS ρ (oRs (ρ[k]?.join) S) fun x _ => liftS ρ (f ρ S) fun y S1 => liftS ρ (o x y S1) fun z S2 => .nx (ρ.set k (some z)) S2 := by
  unfold sAug
  cases h : ρ[k]? with
  | none => rfl
  | some o => cases o <;> rfl
@[simp] theorem gNm_ap : gNm k x ρ S = .ok (ρ.set k (some x)) S := rfl
@[simp] theorem sFor_ap {fi : Env → Sto → Rs IDt} {gt : GD} : sFor fi gt s ρ S = liftS ρ (fi ρ S) fun d S1 => forL gt s d.2 d.1 ρ S1 := rfl
@[simp] theorem iRgA_ap : iRgA ga ρ S = (ga ρ S).bind fun ds S1 => match ds with
  | [.p (.int j)] => if big62 j = true then .ok (rngL 0 j.toNat, (fun _ => True : Sto → Prop)) S1 else .st
  | _ => .st := rfl
@[simp] theorem iRgB_ap : iRgB ga ρ S = (ga ρ S).bind fun ds S1 => match ds with
  | [.p (.int i), .p (.int j)] => if big62 i = true ∧ big62 j = true then .ok (rngL i (j - i).toNat, (fun _ => True : Sto → Prop)) S1 else .st
  | _ => .st := rfl
@[simp] theorem iTpl_ap : iTpl f ρ S = (f ρ S).bind fun d S1 => match d with
  | .p (.tuple l) => .ok (l.map .p, (fun _ => True : Sto → Prop)) S1
  | _ => .st := rfl
@[simp] theorem iLst_ap : iLst f ρ S = (f ρ S).bind fun d S1 => match lItems S1 d with
  | some l => .ok (l, chkOf d l) S1
  | none => .st := rfl
@[simp] theorem restD_p' : restD (.p d) S = some (d, S) := rfl
@[simp] theorem restAll_nil : restAll [] S = some ([], S) := rfl
@[simp] theorem restAll_cons : restAll (x :: ds) S = (restD x S).bind fun r => (restAll ds r.2).map fun q => (r.1 :: q.1, q.2) := by
  rw [restAll]
  cases h : restD x S <;> rfl
/-! values -/
@[simp] theorem gAdd_int : gAdd (.p (.int i)) (.p (.int j)) S = .ok (.int (i + j)) S := rfl
@[simp] theorem gAdd_str {a b : Str} : gAdd (.p (.str a)) (.p (.str b)) S = if a.length + b.length ≤ sizeLine then .ok (.str (a ++ b)) S else .st := rfl
@[simp] theorem gAdd_tup : gAdd (.p (.tuple l)) (.p (.tuple l')) S = if l.length + l'.length ≤ sizeLine then .ok (.tup (l ++ l')) S else .st := rfl
@[simp] theorem gAdd_lst : gAdd (.p (.list l)) (.p (.list l')) S = if l.length + l'.length ≤ sizeLine then .ok (.lst (l ++ l')) S else .st := rfl
@[simp] theorem gAddI_int : gAddI (.p (.int i)) (.p (.int j)) S = .ok (.int (i + j)) S := rfl
@[simp] theorem gSub_int : gSub (.p (.int i)) (.p (.int j)) S = .ok (.int (i - j)) S := rfl
@[simp] theorem gMul_int : gMul (.p (.int i)) (.p (.int j)) S = if i.natAbs < 2 ^ 64 ∨ j.natAbs < 2 ^ 64 then .ok (.int (i * j)) S else .st := by
  simp [gMul, gInt]
@[simp] theorem gMod_int : gMod (.p (.int i)) (.p (.int j)) S = if 0 < j then .ok (.int (i % j)) S else .st := by simp [gMod, gInt]
@[simp] theorem gFdv_int : gFdv (.p (.int i)) (.p (.int j)) S = if 0 < j ∧ j < 1073741824 then .ok (.int (i / j)) S else .st := by simp [gFdv, gInt]
@[simp] theorem gPow_int : gPow (.p (.int i)) (.p (.int j)) S = if 0 ≤ j ∧ j ≤ 1000000 ∧ i.natAbs < 2 ^ 64 then .ok (.int (i ^ j.toNat)) S else .st := by simp [gPow, gInt]
@[simp] theorem gLt_int : gLt (.p (.int i)) (.p (.int j)) S = .ok (.bl (decide (i < j))) S := rfl
@[simp] theorem gLe_int : gLe (.p (.int i)) (.p (.int j)) S = .ok (.bl (decide (i ≤ j))) S := rfl
@[simp] theorem gGt_int : gGt (.p (.int i)) (.p (.int j)) S = .ok (.bl (decide (j < i))) S := rfl
@[simp] theorem gGe_int : gGe (.p (.int i)) (.p (.int j)) S = .ok (.bl (decide (j ≤ i))) S := rfl
theorem gEq_pp {neg : Bool} : gEq neg (.p d) (.p e) S = if scalD d e = true then .ok (.bl (neg ^^ PyData.eqv d e)) S else if SeqAt.shaped d = true ∧ SeqAt.shaped e = true then .ok (.bl (neg ^^ PyData.eqv d e)) S else .st := rfl
@[simp] theorem gEq_int {neg : Bool} : gEq neg (.p (.int i)) (.p (.int j)) S = .ok (.bl (neg ^^ (i == j))) S := by rw [gEq_pp]; rfl
@[simp] theorem gEq_str {neg : Bool} {a b : Str} : gEq neg (.p (.str a)) (.p (.str b)) S = .ok (.bl (neg ^^ (a == b))) S := by rw [gEq_pp]; rfl
@[simp] theorem gEq_bl {neg a b : Bool} : gEq neg (.p (.bool a)) (.p (.bool b)) S = .ok (.bl (neg ^^ (a == b))) S := by rw [gEq_pp]; rfl
/-- an item at a place -/
@[simp] theorem atI_nat' {α : Type} (l : List α) (k : Nat) : atI l (k : Int) = l[k]? := by
  unfold atI ixN
  rw [if_pos (by omega)]
  by_cases h : (k : Int) < (l.length : Int)
  · rw [if_pos h]; simp
  · rw [if_neg h, List.getElem?_eq_none (by omega)]; rfl
@[simp] theorem atI_0 {α : Type} (l : List α) : atI l 0 = l[0]? := atI_nat' l 0
@[simp] theorem atI_1 {α : Type} (l : List α) : atI l 1 = l[1]? := atI_nat' l 1
@[simp] theorem atI_2 {α : Type} (l : List α) : atI l 2 = l[2]? := atI_nat' l 2
@[simp] theorem atI_3 {α : Type} (l : List α) : atI l 3 = l[3]? := atI_nat' l 3
@[simp] theorem atI_4 {α : Type} (l : List α) : atI l 4 = l[4]? := atI_nat' l 4
@[simp] theorem atI_5 {α : Type} (l : List α) : atI l 5 = l[5]? := atI_nat' l 5
@[simp] theorem gIx_tup : gIx (.p (.tuple l)) (.p (.int i)) S = oRs ((atI l i).map .p) S := by
  unfold gIx
  dsimp only
  cases atI l i <;> rfl
@[simp] theorem gIx_lst : gIx (.p (.list l)) (.p (.int i)) S = oRs ((atI l i).map .p) S := by
  unfold gIx
  simp only [lItems, atI_map]
  cases atI l i <;> rfl
@[simp] theorem gIx_scr {ns : List Int} : gIx (.scr ns) (.p (.int i)) S = oRs ((atI ns i).map .int) S := by
  unfold gIx
  simp only [lItems, atI_map]
  cases atI ns i <;> rfl
@[simp] theorem gIx_str {z : Str} : gIx (.p (.str z)) (.p (.int i)) S = if z.length ≤ sizeLine then oRs ((atI z.cps.toList i).map fun c => .str ⟨#[c]⟩) S else .st := by
  unfold gIx
  dsimp only
  split
  · cases atI z.cps.toList i <;> rfl
  · rfl
/-- what stands at n -/
def obL (o : Option O) : Option (List D) := match o with
  | some (.lst l) => some l
  | some (.fz l) => some (l.map .p)
  | _ => none
@[simp] theorem obL_lst : obL (some (.lst ds)) = some ds := rfl
@[simp] theorem obL_fz : obL (some (.fz l)) = some (l.map .p) := rfl
theorem lItems_ob : lItems S (.ob n) = obL S[n]? := by
  unfold lItems obL
  rfl
@[simp] theorem gIx_ob : gIx (.ob n) (.p (.int i)) S = oRs ((obL S[n]?).bind fun l => atI l i) S := by
  unfold gIx
  dsimp only
  rw [lItems_ob]
  cases obL S[n]? with
  | none => rfl
  | some l => simp only [Option.bind_some]; cases atI l i <;> rfl
@[simp] theorem gLen_tup : gLen [.p (.tuple l)] S = .ok (.int l.length) S := rfl
@[simp] theorem gLen_lst : gLen [.p (.list l)] S = .ok (.int l.length) S := by
  unfold gLen
  simp [lItems]
@[simp] theorem gLen_scr {ns : List Int} : gLen [.scr ns] S = .ok (.int ns.length) S := by
  unfold gLen
  simp [lItems]
@[simp] theorem gLen_ob : gLen [.ob n] S = oRs ((obL S[n]?).map fun l => .int (l.length : Nat)) S := by
  unfold gLen
  simp only [lItems_ob]
  cases obL S[n]? <;> rfl
@[simp] theorem gLen_str {z : Str} : gLen [.p (.str z)] S = if z.length ≤ sizeLine then .ok (.int z.length) S else .st := rfl
@[simp] theorem gToInt_int : gToInt [.p (.int i)] S = .ok (.int i) S := rfl
@[simp] theorem gToInt_bl {b : Bool} : gToInt [.p (.bool b)] S = .ok (.int (if b then 1 else 0)) S := rfl
@[simp] theorem gToStr_int : gToStr [.p (.int i)] S = if i.natAbs.log2 < 1920 then .ok (.str (toString i)) S else .st := rfl
@[simp] theorem truD_bl {b : Bool} : truD S (.p (.bool b)) = some b := rfl
@[simp] theorem gMin2_int : gMin2 [.p (.int i), .p (.int j)] S = .ok (.int (if j < i then j else i)) S := rfl
@[simp] theorem gMax2_int : gMax2 [.p (.int i), .p (.int j)] S = .ok (.int (if j > i then j else i)) S := rfl
@[simp] theorem isLst_ob : isLst S (.ob n) = (obL S[n]?).isSome := by
  show (match S[n]? with | some (.lst _) => true | some (.fz _) => true | _ => false) = _
  cases S[n]? with
  | none => rfl
  | some o => cases o <;> rfl
@[simp] theorem isLst_lst : isLst S (.p (.list l)) = true := rfl
def obO (o : Option O) : Option (List D) := match o with
  | some (.lst l) => some l
  | _ => none
@[simp] theorem obO_lst : obO (some (.lst ds)) = some ds := rfl
@[simp] theorem oLst_ob : oLst S (.ob n) = (obO S[n]?).map fun l => (n, l) := by
  unfold obO
  show (match S[n]? with | some (.lst l) => some (n, l) | _ => none) = _
  cases S[n]? with
  | none => rfl
  | some o => cases o <;> rfl
def appO (d : PyData) (S : Sto) (o : Option (Nat × List D)) : Rs D := match o with
  | some (n, l) => if l.length < sizeLine then .ok .non (S.set n (.lst (l ++ [.p d]))) else .st
  | none => .st
@[simp] theorem appO_some : appO d S (some (n, ds)) = if ds.length < sizeLine then .ok .non (S.set n (.lst (ds ++ [.p d]))) else .st := rfl
@[simp] theorem gApp_ap : gApp x [D.p d] S = appO d S (oLst S x) := by
  show (match oLst S x with | some (n, l) => if l.length < sizeLine then Rs.ok D.non (S.set n (.lst (l ++ [D.p d]))) else Rs.st | none => Rs.st) = _
  unfold appO
  cases oLst S x <;> rfl
@[simp] theorem gSetL_ap {fo fi : ED} : gSetL fo fi x ρ S = (fo ρ S).bind fun o S1 => (fi ρ S1).bind fun i S2 => okE ρ (setL x o i S2) := rfl
@[simp] theorem okE_some : okE ρ (some S) = .ok ρ S := rfl
@[simp] theorem setL_ob {n : Nat} {i : Int} : setL x (D.ob n) (D.p (PyData.int i)) S = (obO S[n]?).bind fun l => (ixN l.length i).map fun j => S.set n (.lst (l.set j x)) := by
  show (match S[n]? with | some (.lst l) => (match ixN l.length i with | some j => some (S.set n (.lst (l.set j x))) | none => none) | _ => none) = _
  cases S[n]? with
  | none => rfl
  | some o =>
    cases o with
    | lst l =>
      show (match ixN l.length i with | some j => some (S.set n (.lst (l.set j x))) | none => none) = (ixN l.length i).map _
      cases ixN l.length i <;> rfl
    | fz _ => rfl
    | dic _ => rfl
theorem ixN_nat (n k : Nat) : ixN n (k : Int) = if k < n then some k else none := by
  unfold ixN
  rw [if_pos (by omega)]
  by_cases h : (k : Int) < (n : Int)
  · rw [if_pos h, if_pos (by omega)]; rfl
  · rw [if_neg h, if_neg (by omega)]
@[simp] theorem ixN_0 (n : Nat) : ixN n 0 = if 0 < n then some 0 else none := ixN_nat n 0
@[simp] theorem ixN_1 (n : Nat) : ixN n 1 = if 1 < n then some 1 else none := ixN_nat n 1
@[simp] theorem sizeLine_val : sizeLine = 16777216 := sizeLine_eq
end
end DL
namespace DL
open PySem PySem.Spec PyProof.Rows L2
/-! ### loops, by an invariant -/
section
variable {g : GD} {body : SD} {chk : Sto → Prop}
theorem forL_inv (I : Nat → Env → Sto → Prop) : ∀ (ds : List D) (k : Nat) (ρ : Env) (S : Sto), (∀ i d ρ S, ds[i]? = some d → I (k + i) ρ S → ∃ ρ1 S1, g d ρ S = .ok ρ1 S1 ∧ ∃ ρ2 S2, (body ρ1 S1 = .nx ρ2 S2 ∨ body ρ1 S1 = .ct ρ2 S2) ∧ chk S2 ∧ I (k + i + 1) ρ2 S2) → I k ρ S →
    ∃ ρ' S', forL g body chk ds ρ S = .nx ρ' S' ∧ I (k + ds.length) ρ' S'
  | [], k, ρ, S, _, h => ⟨ρ, S, rfl, h⟩
  | d :: ds, k, ρ, S, st, h => by
    obtain ⟨ρ1, S1, e1, ρ2, S2, e2, c, h2⟩ := st 0 d ρ S rfl h
    obtain ⟨ρ', S', e3, h3⟩ := forL_inv I ds (k + 1) ρ2 S2 (fun i d ρ S e hh => by
      have := st (i + 1) d ρ S (by simpa using e) (by rw [show k + (i + 1) = k + 1 + i by omega]; exact hh)
      rw [show k + (i + 1) + 1 = k + 1 + i + 1 by omega] at this
      exact this) h2
    refine ⟨ρ', S', ?_, by rw [List.length_cons, show k + (ds.length + 1) = k + 1 + ds.length by omega]; exact h3⟩
    unfold forL
    rw [e1]
    rcases e2 with e2 | e2
    · simp only [e2, if_pos c]; exact e3
    · simp only [e2, if_pos c]; exact e3
/-- .. that may hand something back -/
theorem forL_ret (I : Nat → Env → Sto → Prop) (R : D → Sto → Prop) : ∀ (ds : List D) (k : Nat) (ρ : Env) (S : Sto), (∀ i d ρ S, ds[i]? = some d → I (k + i) ρ S → ∃ ρ1 S1, g d ρ S = .ok ρ1 S1 ∧ ((∃ ρ2 S2, (body ρ1 S1 = .nx ρ2 S2 ∨ body ρ1 S1 = .ct ρ2 S2) ∧ chk S2 ∧ I (k + i + 1) ρ2 S2) ∨ ∃ d' S', body ρ1 S1 = .rt d' S' ∧ R d' S')) → I k ρ S →
    (∃ ρ' S', forL g body chk ds ρ S = .nx ρ' S' ∧ I (k + ds.length) ρ' S') ∨ ∃ d' S', forL g body chk ds ρ S = .rt d' S' ∧ R d' S'
  | [], k, ρ, S, _, h => .inl ⟨ρ, S, rfl, h⟩
  | d :: ds, k, ρ, S, st, h => by
    obtain ⟨ρ1, S1, e1, hh⟩ := st 0 d ρ S rfl h
    rcases hh with ⟨ρ2, S2, e2, c, h2⟩ | ⟨d', S', e2, r⟩
    · have key := forL_ret I R ds (k + 1) ρ2 S2 (fun i d ρ S e hh => by
        have := st (i + 1) d ρ S (by simpa using e) (by rw [show k + (i + 1) = k + 1 + i by omega]; exact hh)
        rw [show k + (i + 1) + 1 = k + 1 + i + 1 by omega] at this
        exact this) h2
      have eq : forL g body chk (d :: ds) ρ S = forL g body chk ds ρ2 S2 := by
        rw [forL, e1]
        rcases e2 with e2 | e2
        · simp only [e2, if_pos c]
        · simp only [e2, if_pos c]
      rw [eq, List.length_cons, show k + (ds.length + 1) = k + 1 + ds.length by omega]
      exact key
    · refine .inr ⟨d', S', ?_, r⟩
      rw [forL, e1]
      simp only [e2]
theorem lcL_inv {c : BD} {f : ED} {ρ0 : Env} (I : Nat → List PyData → Sto → Prop) : ∀ (ds : List D) (k : Nat) (acc : List PyData) (S : Sto),
    (∀ i d acc S, ds[i]? = some d → I (k + i) acc S → ∃ ρ1 S1, g d ρ0 S = .ok ρ1 S1 ∧ ∃ b S2, c ρ1 S1 = .ok b S2 ∧ ((b = false ∧ chk S2 ∧ I (k + i + 1) acc S2) ∨ (b = true ∧ ∃ p S3, f ρ1 S2 = .ok (.p p) S3 ∧ acc.length < sizeLine ∧ chk S3 ∧ I (k + i + 1) (acc ++ [p]) S3))) → I k acc S →
    ∃ acc' S', lcL g c f chk ρ0 ds acc S = some (acc', S') ∧ I (k + ds.length) acc' S'
  | [], k, acc, S, _, h => ⟨acc, S, rfl, h⟩
  | d :: ds, k, acc, S, st, h => by
    obtain ⟨ρ1, S1, e1, b, S2, e2, hh⟩ := st 0 d acc S rfl h
    have go : ∀ acc2 S3, I (k + 1) acc2 S3 → ∃ acc' S', lcL g c f chk ρ0 ds acc2 S3 = some (acc', S') ∧ I (k + (ds.length + 1)) acc' S' := fun acc2 S3 h3 => by
      have key := lcL_inv I ds (k + 1) acc2 S3 (fun i d acc S e hh => by
        have := st (i + 1) d acc S (by simpa using e) (by rw [show k + (i + 1) = k + 1 + i by omega]; exact hh)
        rw [show k + (i + 1) + 1 = k + 1 + i + 1 by omega] at this
        exact this) h3
      rw [show k + (ds.length + 1) = k + 1 + ds.length by omega]
      exact key
    rcases hh with ⟨rfl, ck, h2⟩ | ⟨rfl, p, S3, e3, hl, ck, h2⟩
    · obtain ⟨acc', S', e4, h4⟩ := go _ _ h2
      refine ⟨acc', S', ?_, h4⟩
      rw [lcL, e1]
      simp only [e2, if_pos ck]
      exact e4
    · obtain ⟨acc', S', e4, h4⟩ := go _ _ h2
      refine ⟨acc', S', ?_, h4⟩
      rw [lcL, e1]
      simp only [e2, e3, restD_p', if_pos (And.intro hl ck)]
      exact e4
theorem rngL_get {lo : Int} {n i : Nat} {d : D} (e : (rngL lo n)[i]? = some d) : i < n ∧ d = .int (lo + i) := by
  unfold rngL at e
  rw [List.getElem?_map] at e
  by_cases h : i < n
  · rw [List.getElem?_range h] at e
    cases e
    exact ⟨h, rfl⟩
  · rw [List.getElem?_eq_none (by simpa using h)] at e
    cases e
@[simp] theorem rngL_length {lo : Int} {n : Nat} : (rngL lo n).length = n := by simp [rngL]
theorem big62_of {i : Int} (h1 : -4611686018427387904 ≤ i) (h2 : i < 4611686018427387904) : big62 i = true := by
  unfold big62
  exact @decide_eq_true _ (Classical.propDecidable _) ⟨h1, h2⟩
theorem big62_nat {n : Nat} (h : n < 4611686018427387904) : big62 (n : Int) = true := big62_of (by omega) (by omega)
end
end DL

namespace DL
open PySem PySem.Spec PyProof.Rows L2
/-! ### raising, trying -/
section
variable {P : Program} {w : World} {K : PySem.W.Frag} {mg : Str → Option Value} {base : Heap}
/-- a def that may raise; what it raises has no context -/
structure FnN (P : Program) (w : World) (K : PySem.W.Frag) (mg : Str → Option Value) (base : Heap) (k : Nat) (x : Str) (n : Nat) (g : FD) : Prop where
  ex : ∃ (f : Addr) (fd : FuncData) (ps : List Str), ps.length = n ∧ mg x = some (.ref f) ∧ PySem.W.keepIn K (.ref f) = true ∧ Binds K fd ps [] ∧ FnOk P w K mg base (L2N.CX P w) k f fd ps (spOf K mg n g)
theorem Fun.dlN {x : Str} {st : Stmt} {f : Addr} {fd : FuncData} {N ps : List Str} {k : Nat} {F : SD} {g : FD} (Fu : Fun K x x st f fd) (Sc : FnScope N ps (defScope st)) (gm : mg x = some (.ref f)) (bd : Binds K fd ps [])
    (body : ∀ (cdv : Value) (A : Around) (outer : List PySem.Env) (s : Shared) (H : Hp) (E : XK), Room k (A.deeper (envOfC x (defScope st) s.heap.objs.size f cdv)) →
      DSs (cxOf (L2N.CX P w) P w K mg base N x (defScope st) f cdv A outer s H E) (fun cls d _ H => E cls d H) (defBody st) F)
    (hg : ∀ ds S, ds.length = ps.length → ClS S.length S → (∀ d ∈ ds, ClD S.length d) → Dn S (F (start0 N ds) S) (g ds S)) : FnN P w K mg base (k + 1) x ps.length g := by
  have fok : FnOk P w K mg base (L2N.CX P w) (k + 1) f fd ps (spOf K mg ps.length g) := by
    obtain ⟨oc, od, kV, doc, pm, an, cdv, ct, osl, rfl, lk, hcd⟩ := Fu.ex
    refine fn_of lk hcd Sc (fun vs H Q E h => h.1) fun A outer s H vs Q E hr h => ?_
    obtain ⟨hl, κ, ds, S, m, rl, rd, po⟩ := h
    obtain ⟨t, pt, it⟩ := body cdv A outer s H E hr
    refine ⟨t, pt, it κ (start0 N ds) S (L2.start N vs) H m _ rl (RE_start rd) ?_⟩
    refine post_of (E := E) rl (hg ds S ((pairLen rd).trans hl) rl.cl (fun d hd => ?_)) po (fun _ _ _ _ z => z)
    have := pairAll (F := RD ⟨K, κ⟩ m S H) (P := ClD m.length) (fun _ _ q => q.cl) rd d hd
    rw [rl.len] at this
    exact this
  exact ⟨f, fd, ps, rfl, gm, Fu.kp, bd, fok⟩
end
section
variable {X : Cx} {W : WX} {m m1 : List Addr} {S S1 : Sto} {H H1 : Hp} {σ : St} {ρ : Env} {κ : Addr → Prop}
variable {a b c e o : Expr} {pos : Pos} {fa fb fe fo : ED} {es : List Expr} {ga : AD} {ss : List Stmt}
theorem de_callN {k j n : Nat} {x : Str} {p : Pos} {g : FD} (F : FnN X.prog X.w X.K X.mg X.base k x n g) (tk : L2N.Takes X W) (hr : Room j X.A) (hk : k ≤ j) (hg : Gl X x) (ha : DA X W (e :: es) ga)
    (hd : (x == ("__debug__" : Str)) = false := by decide) (hs : starEach (e :: es) X.env = (false, eval e X.env) :: starEach es X.env := by rfl)
    (hp : (backTo pos (starEach es X.env)).any (·.1) = false := by rfl) : DE X W (.Call (.Name x p) (e :: es) [] pos) (eCallX n g ga) := by
  obtain ⟨f, fd, ps, hl, gm, kp, bd, ok⟩ := F
  obtain ⟨t, q, i⟩ := ha
  refine ⟨_, pe_callS (E := WE W) ok (hr.mono hk) hg gm kp bd (fun σ => L2N.passAt tk σ) q hd hs hp, fun κ ρ S σ H m Q rl re h => ?_⟩
  refine i.seq rl re h fun d S1 v H1 m1 x1 rl1 re1 r1 h1 => ?_
  split at h1
  · rename_i hn
    exact ⟨by rw [← pairLen r1]; exact hn, κ, d, S1, m1, rl1, r1, PostF.of h1⟩
  · exact h1.elim
/-- what an expression makes that is raised -/
structure DM (X : Cx) (e : Expr) (f : Env → Sto → Rs Xc) : Prop where
  ex : ∃ t : St → Hp → XK → Prop, L2N.PMk X e t ∧ ∀ κ ρ S σ H m (Q : XK), Rl (KX X κ) m S H → RE (KX X κ) m S H ρ σ →
    (match f ρ S with | .ok x S' => ∀ H' m' c dd, Nx (KX X κ) m S H m' S' H' → Rl (KX X κ) m' S' H' → RX X.mg (KX X κ) (lv (KX X κ) m' S') H' x c dd → Q c dd H' | _ => False) → t σ H Q
def mOwn (x : Str) : Env → Sto → Rs Xc := fun _ S => .ok ⟨x, []⟩ S
/-- X(), an own class without a making of its own -/
theorem pmk_own_0 {C : Addr} {bmB : List Value} {B newId initId : String} {x : Str} {p : Pos} (F : ExcBaseFacts B newId initId bmB) (q : PySem.W.excIn X.K C bmB newId = true) (gC : X.mg x = some (.ref C))
    (kC : PySem.W.keepIn X.K (.ref C) = true) (r : Raises X (.ref C)) (hg : Gl X x) (hdb : (x == ("__debug__" : Str)) = false := by decide) : L2N.PMk X (.Call (.Name x p) [] [] pos) (fun _ H Q => Q (.ref C) none H) := by
  intro pins s σ H Q I q1
  refine wpAny_Call_Name_kw (ld_glob I hg gC ?_ hdb)
  refine PySem.W.callWith_K0 I.kIn kC ?_
  obtain ⟨bm, N, nm, qn, bs, hdct, sn, sub, ab, col, dd, k0, k1, k2, k3, k5, mN, hC, hN, hni, T⟩ := exc_obj I.kIn q
  exact wpAny_call_exc_subT F T hC hN hni (fun h' e hm => L2N.mk_of I hm r q1 (I.hok.gone hm.new)) (Nat.zero_le _)
theorem dm_own {C : Addr} {bmB : List Value} {B newId initId : String} {x : Str} {p : Pos} (F : ExcBaseFacts B newId initId bmB) (q : PySem.W.excIn X.K C bmB newId = true) (gC : X.mg x = some (.ref C))
    (kC : PySem.W.keepIn X.K (.ref C) = true) (r : Raises X (.ref C)) (hg : Gl X x) (hdb : (x == ("__debug__" : Str)) = false := by decide) : DM X (.Call (.Name x p) [] [] pos) (mOwn x) :=
  ⟨_, pmk_own_0 F q gC kC r hg hdb, fun κ ρ S σ H m Q rl re h => h H m (.ref C) none .refl rl ⟨gC, .inl ⟨rfl, rfl⟩⟩⟩
def sRaise (f : Env → Sto → Rs Xc) : SD := fun ρ S => match f ρ S with
  | .ok x S1 => .ex x ρ S1
  | _ => .st
theorem ds_raise {f : Env → Sto → Rs Xc} (hc : X.calm = true) (tk : L2N.Takes X W) (he : DM X e f) : DS X W (.Raise (some e) none pos) (sRaise f) := by
  obtain ⟨t, p, i⟩ := he
  refine ⟨_, L2N.ps_raise hc tk p, fun κ ρ S σ H m Dn rl re h => ?_⟩
  refine i κ ρ S σ H m _ rl re ?_
  unfold sRaise at h
  cases e1 : f ρ S with
  | st => rw [e1] at h; exact h.elim
  | ex _ _ => rw [e1] at h; exact h.elim
  | ok x S1 =>
    rw [e1] at h
    exact fun H' m' c dd nx rl' rx => h σ H' m' c dd nx rl' (re.nx nx) rx
/-- what raises nothing -/
def noX (f : SD) : SD := fun ρ S => match f ρ S with
  | .ex _ _ _ => .st
  | o => o
theorem dss_nox {f : SD} (h : DSs X.nox (fun _ _ _ _ => False) ss f) : DSs X W ss (noX f) := by
  obtain ⟨t, p, i⟩ := h
  refine ⟨t, p.nox, fun κ ρ S σ H m Dn rl re h => i κ ρ S σ H m Dn rl re ?_⟩
  have h : PostS X κ W m S H (noX f ρ S) Dn := h
  unfold noX at h
  cases e1 : f ρ S with
  | ex _ _ _ => rw [e1] at h; exact h.elim
  | st => rw [e1] at h; exact h.elim
  | nx _ _ => rw [e1] at h; exact h
  | bk _ _ => rw [e1] at h; exact h
  | ct _ _ => rw [e1] at h; exact h
  | rt _ _ => rw [e1] at h; exact h
theorem ds_nox {s1 : Stmt} {f : SD} (h : DS X.nox (fun _ _ _ _ => False) s1 f) : DS X W s1 (noX f) := by
  obtain ⟨t, p, i⟩ := h
  refine ⟨t, ⟨fun pins s σ H D I hw => wpAny_mono (p.run pins s σ H D (I.wish _) hw) (fun _ _ q => q.unwish) fun _ _ z => False.elim z⟩, fun κ ρ S σ H m Dn rl re h => i κ ρ S σ H m Dn rl re ?_⟩
  have h : PostS X κ W m S H (noX f ρ S) Dn := h
  unfold noX at h
  cases e1 : f ρ S with
  | ex _ _ _ => rw [e1] at h; exact h.elim
  | st => rw [e1] at h; exact h.elim
  | nx _ _ => rw [e1] at h; exact h
  | bk _ _ => rw [e1] at h; exact h
  | ct _ _ => rw [e1] at h; exact h
  | rt _ _ => rw [e1] at h; exact h
/-- a suite's end: the name is gone -/
def gone (i : Nat) : Out → Out
  | .nx ρ S => .nx (ρ.set i none) S
  | .bk ρ S => .bk (ρ.set i none) S
  | .ct ρ S => .ct (ρ.set i none) S
  | .rt d S => .rt d S
  | _ => .st
open Classical in
noncomputable def common (q : Option Addr → Prop) (F : Addr → Option Addr → Out) : Out := if h : ∃ o, ∀ a d, q d → F a d = o then h.choose else .st
theorem common_eq {q : Option Addr → Prop} {F : Addr → Option Addr → Out} {o : Out} (h : ∀ a d, q d → F a d = o) (ne : ∃ d, q d) : common q F = o := by
  have e : ∃ o, ∀ a d, q d → F a d = o := ⟨o, h⟩
  unfold common
  rw [dif_pos e]
  obtain ⟨d, hd⟩ := ne
  exact (e.choose_spec 0 d hd).symm.trans (h 0 d hd)
theorem common_at {q : Option Addr → Prop} {F : Addr → Option Addr → Out} {R : Out → Prop} (hst : ¬ R .st) (h : R (common q F)) {a : Addr} {d : Option Addr} (hd : q d) : R (F a d) := by
  unfold common at h
  by_cases e : ∃ o, ∀ a d, q d → F a d = o
  · rw [dif_pos e] at h
    rw [e.choose_spec a d hd]
    exact h
  · rw [dif_neg e] at h
    exact absurd h hst
noncomputable def sTry (sub : Str → Bool → Option Bool) (i : Nat) (fb : SD) (fs : Str → Addr → Option Addr → SD) : SD := fun ρ S => match fb ρ S with
  | .ex x ρ1 S1 => (match sub x.c (!x.fs.isEmpty) with
    | some true => common (fun d => d.isSome = !x.fs.isEmpty) fun a d => gone i (fs x.c a d (ρ1.set i (some (.xc a d x.fs))) S1)
    | some false => .ex x ρ1 S1
    | none => .st)
  | o => o
/-- a suite's term, by what it does for the classes that are known -/
def canT (Y : Cx) (sub : Str → Bool → Option Bool) (hb : Bool) (fs : Str → SD) (cls : Value) : TS := fun D σ H => ∃ (cn : Str) (κ : Addr → Prop) (ρ : Env) (S : Sto) (m : List Addr), sub cn hb = some true ∧ Y.mg cn = some cls ∧ Rl (KX Y κ) m S H ∧ RE (KX Y κ) m S H ρ σ ∧
  PostS Y κ (fun _ _ _ _ => False) m S H (fs cn ρ S) D
theorem ds_try_as {body suite : List Stmt} {b₀ : Stmt} {np pos' : Pos} {i : Nat} {x n : Str} {c : Value} {sub : Str → Bool → Option Bool} {fb : SD} {fs : Str → Addr → Option Addr → SD}
    (hs : X.stack = X.env :: X.outer) (hf : X.env.frame = some X.env.locals) (hN : X.N.Nodup) (hi : X.N[i]? = some n) (hln : X.env.kindOf n = some .local) (hc : Names X x c) (tk : L2N.Takes X W)
    (hsub : ∀ cn hb b cls, sub cn hb = some b → X.mg cn = some cls → PySem.W.exmOne X.K cls c = some b)
    (hb : ∀ (W : WX) (pn : List (Addr × Obj)) (xe : Value → Shared → Prop), L2N.Takes (X.tr pn xe) W → PassesOwn (model X.prog X.w) X.A X.env xe → DSs (X.tr pn xe) W body fb)
    (hsu : ∀ (cn : Str) (cls : Value) (a : Addr) (oe : Obj) (d : Option Addr) (pn : List (Addr × Obj)), sub cn d.isSome = some true → X.mg cn = some cls → L2N.Zn cls d oe → (∃ vs, oe.data = .fields vs) → DSs (X.suite a ((a, oe) :: pn)) (fun _ _ _ _ => False) (b₀ :: suite) (fs cn a d)) :
    DS X W (.Try body [.ExceptHandler (some (.Name x np)) (some n) (b₀ :: suite) pos'] [] [] pos) (sTry sub i fb fs) := by
  have hb' : ∀ (W : WX) (pn : List (Addr × Obj)) (xe : Value → Shared → Prop), L2N.Takes (X.tr pn xe) W → PassesOwn (model X.prog X.w) X.A X.env xe → PSs (X.tr pn xe) body (fun D σ H => ∃ (κ : Addr → Prop) (ρ : Env) (S : Sto) (m : List Addr), Rl (KX X κ) m S H ∧ RE (KX X κ) m S H ρ σ ∧ PostS X κ W m S H (fb ρ S) D) := by
    intro W pn xe t ps
    obtain ⟨t, p, im⟩ := hb W pn xe t ps
    exact ⟨fun pins s σ H D I ⟨κ, ρ, S, m, rl, re, h⟩ => p.run pins s σ H D I (im κ ρ S σ H m D rl re h)⟩
  have hsu' : ∀ (a : Addr) (oe : Obj) (cls : Value) (d : Option Addr) (pn : List (Addr × Obj)), L2N.Zn cls d oe → (∃ vs, oe.data = .fields vs) → PSs (X.suite a ((a, oe) :: pn)) (b₀ :: suite) (canT X sub d.isSome (fun cn => fs cn a d) cls) := by
    intro a oe cls d pn hz hfl
    refine ⟨fun pins s σ H D I hw => ?_⟩
    obtain ⟨cn, κ, ρ, S, m, e1, e2, rl, re, h⟩ := hw
    obtain ⟨t, p, im⟩ := hsu cn cls a oe d pn e1 e2 hz hfl
    exact p.run pins s σ H D I (im κ ρ S σ H m D rl re h)
  refine ⟨_, L2N.ps_try_as hs hf hN hi hln hc tk hb' hsu', fun κ ρ S σ H m Dn rl re h => ⟨κ, ρ, S, m, rl, re, ?_⟩⟩
  have h : PostS X κ W m S H (sTry sub i fb fs ρ S) Dn := h
  unfold sTry at h
  cases e1 : fb ρ S with
  | st => rw [e1] at h; exact h.elim
  | nx _ _ => rw [e1] at h; exact h
  | bk _ _ => rw [e1] at h; exact h
  | ct _ _ => rw [e1] at h; exact h
  | rt _ _ => rw [e1] at h; exact h
  | ex y ρ1 S1 =>
    rw [e1] at h
    simp only at h
    intro σ1 H1 m1 cls dd x1 rl1 re1 rx
    have hd : dd.isSome = !y.fs.isEmpty := by
      rcases rx.2 with ⟨q1, q2⟩ | ⟨d, q1, q2, q3⟩
      · rw [q1, q2]; rfl
      · rw [q1]
        cases e5 : y.fs with
        | nil => exact absurd e5 q2
        | cons _ _ => rfl
    cases e2 : sub y.c (!y.fs.isEmpty) with
    | none => rw [e2] at h; exact h.elim
    | some bb =>
      refine ⟨bb, hsub _ _ _ _ e2 rx.1, fun hbt a ha => ?_, fun hbf => ?_⟩
      · subst hbt
        rw [e2] at h
        have h2 := common_at (R := fun o => PostS X κ W m S H o Dn) (fun z => z) h (a := a) (d := dd) hd
        refine ⟨y.c, κ, ρ1.set i (some (.xc a dd y.fs)), S1, m1, by rw [hd]; exact e2, rx.1, rl1, pairSet re1 (fun d' e => ⟨_, rfl, ?_⟩), ?_⟩
        · cases e
          refine ⟨rfl, fun d e => ?_⟩
          rcases rx.2 with ⟨_, q2⟩ | ⟨d2, q1, _, q3⟩
          · rw [q2] at e; cases e
          · rw [q1] at e; cases e; exact q3
        · have h3 := PostS.nx x1 h2
          show PostS X κ (fun _ _ _ _ => False) m1 S1 H1 (fs y.c a dd (ρ1.set i (some (.xc a dd y.fs))) S1) _
          cases e3 : fs y.c a dd (ρ1.set i (some (.xc a dd y.fs))) S1 with
          | st => rw [e3] at h3; exact h3.elim
          | ex _ _ _ => rw [e3] at h3; exact h3.elim
          | nx ρ2 S2 => rw [e3] at h3; exact fun σ' H' m' x2 rl2 re2 => h3 _ H' m' x2 rl2 (pairSet re2 fun d' e => by cases e)
          | bk ρ2 S2 => rw [e3] at h3; exact fun σ' H' m' x2 rl2 re2 => h3 _ H' m' x2 rl2 (pairSet re2 fun d' e => by cases e)
          | ct ρ2 S2 => rw [e3] at h3; exact fun σ' H' m' x2 rl2 re2 => h3 _ H' m' x2 rl2 (pairSet re2 fun d' e => by cases e)
          | rt d2 S2 => rw [e3] at h3; exact h3
      · subst hbf
        rw [e2] at h
        exact h σ1 H1 m1 cls dd x1 rl1 re1 rx
end
end DL

namespace DL
open PySem PySem.Spec PyProof.Rows L2
/-! ### while an exception is handled -/
/-- the exception in hand stands at a, its class is called cn, its own dict is d -/
structure HX (X : Cx) (a : Addr) (cn : Str) (d : Option Addr) : Prop where
  ex : ∃ (oe : Obj) (cls : Value), (a, oe) ∈ X.pn ∧ L2H.Hot1 X.A (a, oe) ∧ X.mg cn = some cls ∧ L2N.Zn cls d oe
section
variable {X : Cx} {a0 : Addr} {cn : Str} {d0 : Option Addr}
theorem HX.hot (h : HX X a0 cn d0) : L2H.HotC X := by
  obtain ⟨oe, cls, h1, h2, _⟩ := h
  exact ⟨_, h2, h1⟩
theorem HX.of_suite {cls : Value} {oe : Obj} {pn : List (Addr × Obj)} (hm : X.mg cn = some cls) (hz : L2N.Zn cls d0 oe) (hf : ∃ vs, oe.data = .fields vs) : HX (X.suite a0 ((a0, oe) :: pn)) a0 cn d0 := by
  obtain ⟨vs, e⟩ := hf
  exact ⟨oe, cls, List.mem_cons_self, ⟨rfl, vs, e, hz.2.2 vs e⟩, hm, hz⟩
end
section
variable {P : Program} {w : World} {K : PySem.W.Frag} {mg : Str → Option Value} {base : Heap}
/-- the def called x does g where an exception of the class called cn is in hand -/
structure FnK (P : Program) (w : World) (K : PySem.W.Frag) (mg : Str → Option Value) (base : Heap) (k : Nat) (x : Str) (n : Nat) (cn : Str) (dk : Bool) (g : Addr → Option Addr → FD) : Prop where
  ex : ∃ (f : Addr) (fd : FuncData) (ps : List Str), ps.length = n ∧ mg x = some (.ref f) ∧ PySem.W.keepIn K (.ref f) = true ∧ Binds K fd ps [] ∧
    ∀ (A : Around) (outer : List PySem.Env) (s : Shared) (H : Hp) (ar : Args) (us : List Value) (vs : List V) (Q : VK) (E : XK) (a : Addr) (oe : Obj) (cls : Value) (d : Option Addr), d.isSome = dk →
      L2H.RoomH k A → L2H.Hot1 A (a, oe) → L2H.PinOk outer H s (a, oe) → mg cn = some cls → L2N.Zn cls d oe → Env0 P w K mg base A outer s H → BindsTo s fd ar (ps.zip us) → Vals vs us →
      spOf K mg n (fun ds S => noEx (g a d ds S)) vs H Q E → codeAny (model P w) A (.call (.ref f) ar) (CR CX0 outer P w H s Q E) s
abbrev hotX (P : Program) (w : World) (K : PySem.W.Frag) (mg : Str → Option Value) (base : Heap) (N : List Str) (x : Str) (st : Stmt) (f : Addr) (cdv : Value) (A : Around) (outer : List PySem.Env) (s : Shared) (H : Hp) (E : XK) (p : Addr × Obj) : Cx :=
  (L2H.cxH CX0 P w K mg base N x (defScope st) f cdv A outer s H E p).nox
theorem Fun.dlK {x : Str} {st : Stmt} {f : Addr} {fd : FuncData} {N ps : List Str} {k : Nat} {cn : Str} {dk : Bool} {F : Addr → Option Addr → SD} {g : Addr → Option Addr → FD} (Fu : Fun K x x st f fd) (Sc : FnScope N ps (defScope st)) (gm : mg x = some (.ref f)) (bd : Binds K fd ps [])
    (body : ∀ (cdv : Value) (A : Around) (outer : List PySem.Env) (s : Shared) (H : Hp) (E : XK) (p : Addr × Obj) (d : Option Addr), d.isSome = dk → L2H.RoomH k (A.deeper (envOfC x (defScope st) s.heap.objs.size f cdv)) → HX (hotX P w K mg base N x st f cdv A outer s H E p) p.1 cn d →
      DSs (hotX P w K mg base N x st f cdv A outer s H E p) (fun _ _ _ _ => False) (defBody st) (F p.1 d))
    (hg : ∀ a d ds S, ds.length = ps.length → ClS S.length S → (∀ d ∈ ds, ClD S.length d) → Dn S (F a d (start0 N ds) S) (g a d ds S)) : FnK P w K mg base (k + 1) x ps.length cn dk g := by
  refine ⟨f, fd, ps, rfl, gm, Fu.kp, bd, ?_⟩
  intro A outer s H ar us vs Q E a oe cls d hdk rm hot pin hm hz e0 hb r hsp
  obtain ⟨oc, od, kV, doc, pm, an, cdv, ct, osl, rfl, lk, hcd⟩ := Fu.ex
  have kin : K.In s.heap := e0.mod.kin.keeps fun b o e => (e0.bs b o e).1
  have lens : vs.length = ps.length := hsp.1
  have loc : ∀ y ∈ ps.zip us, (defScope st).names.lookup y.1 = some .local ∨ ((defScope st).names.lookup y.1 = some .cell ∧ ((cellsFrom (s.heap.objs.size + 1) (defScope st).names []).lookup y.1).isSome = true) := by
    rintro ⟨y, v⟩ hy
    rcases Sc.par y (List.of_mem_zip hy).1 with q | q
    · exact .inl q
    · exact .inr ⟨q, PySem.W.cellsFrom_some _ _ _ (.inl q)⟩
  refine codeAny_call_function rm.depth (kin _ _ lk) rfl Sc.co Sc.gen rfl (PySem.W.codeRec_of kin hcd) (hb _ _ _ _ ?_)
  refine wpAny_newFunctionEnv_cells Sc.kind loc fun en hen s1 ic => ?_
  subst hen
  refine ⟨(e0.mod.nolimit.keeps fun b o e => (e0.bs b o e).1).keeps ic.toInCall.keep, codeAny_func ?_⟩
  have J := L2H.inv_startH (E := E) (CX := CX0) (cd := cdv) Sc pin e0 lens r ic
  obtain ⟨t, pt, it⟩ := body cdv A outer s H E (a, oe) d hdk (rm.deeper _) ⟨oe, cls, List.mem_singleton.mpr rfl, hot, hm, hz⟩
  obtain ⟨hl, κ, ds, S, m, rl, rd, po⟩ := hsp
  have rdy := it κ (start0 N ds) S (L2.start N vs) H m { nx := fun _ H' => Q .non H', rt := Q } rl (RE_start rd) (by
    refine post_of (E := fun _ _ _ => False) rl (hg a d ds S ((pairLen rd).trans hl) rl.cl (fun d hd => ?_)) ?_ (fun _ _ _ _ z => z)
    · have := pairAll (F := RD ⟨K, κ⟩ m S H) (P := ClD m.length) (fun _ _ q => q.cl) rd d hd
      rw [rl.len] at this
      exact this
    · have po : PostF ⟨K, κ⟩ mg m S H (noEx (g a d ds S)) Q E := po
      cases e : g a d ds S with
      | st => rw [e] at po; exact po.elim
      | ok d S' => rw [e] at po; exact po
      | ex y S' => rw [e] at po; exact po.elim)
  refine wpAny_mono (pt.nox.run [] s1 _ H _ J rdy) (fun fl s' hs => ?_) fun e s' hs => hs
  cases fl with
  | ret u =>
    obtain ⟨v, σ', H', J', rv, q⟩ := hs
    exact ⟨v, H', J'.os, J'.bare, J'.base, J'.hok, rv, q⟩
  | next =>
    obtain ⟨σ', H', J', q⟩ := hs
    exact ⟨.non, H', J'.os, J'.bare, J'.base, J'.hok, rfl, q⟩
  | brk =>
    obtain ⟨_, _, _, q⟩ := hs
    exact q.elim
  | cont =>
    obtain ⟨_, _, _, q⟩ := hs
    exact q.elim
end
section
variable {X : Cx} {W : WX} {m m1 : List Addr} {S S1 : Sto} {H H1 : Hp} {σ : St} {ρ : Env} {κ : Addr → Prop}
variable {a b c e o : Expr} {pos : Pos} {fa fb fe fo : ED} {es : List Expr} {ga : AD} {ss : List Stmt} {a0 : Addr} {cn : Str} {d0 : Option Addr}
theorem de_callK {k j n : Nat} {x : Str} {p : Pos} {g : Addr → Option Addr → FD} (hx : HX X a0 cn d0) (F : FnK X.prog X.w X.K X.mg X.base k x n cn d0.isSome g) (hr : L2H.RoomH j X.A) (hk : k ≤ j) (hg : Gl X x) (ha : DA X W (e :: es) ga)
    (hd : (x == ("__debug__" : Str)) = false := by decide) (hs : starEach (e :: es) X.env = (false, eval e X.env) :: starEach es X.env := by rfl)
    (hp : (backTo pos (starEach es X.env)).any (·.1) = false := by rfl) : DE X W (.Call (.Name x p) (e :: es) [] pos) (eCall n (g a0 d0) ga) := by
  obtain ⟨f, fd, ps, hl, gm, kp, bd, ok⟩ := F
  obtain ⟨t, q, i⟩ := ha
  obtain ⟨oe, cls, hmem, hot, hm, hz⟩ := hx
  have pe : PE X (.Call (.Name x p) (e :: es) [] pos) (fun σ H Q => t σ H fun vs H1 => spOf X.K X.mg n (fun ds S => noEx (g a0 d0 ds S)) vs H1 Q (fun _ _ _ => False)) := by
    refine ⟨fun pins s σ H Q I hw => ?_⟩
    refine wpAny_Call_Name_kw (ld_glob I hg gm ?_ hd)
    refine PySem.W.callWith_K (h₀ := X.base) I.ok.mod.kin kp (thn (q.run pos pins s σ H _ I hw) fun us s1 hv => ?_) hs hp
    obtain ⟨vs, H1, I1, r, sp⟩ := hv
    have hul : us.length = ps.length := by rw [← r.length, hl]; exact sp.1
    have bb := bd s1 us I1.kIn (by rw [List.append_nil]; exact hul)
    rw [List.append_nil] at bb
    have pp := I1.pin (a0, oe) (List.mem_append_left _ hmem)
    have pk : L2H.PinOk X.stack H1 s1 (a0, oe) := by
      refine ⟨pp.1, pp.2.1, fun z => ?_, pp.2.2.2.2⟩
      rcases List.mem_cons.mp (I1.stkSub a0 z) with z | z
      · exact pp.2.2.1 z
      · exact pp.2.2.2.1 z
    refine ⟨I1.kIn, wpAny_call (codeAny_mono (ok X.A X.stack s1 H1 ⟨us, []⟩ us vs Q (fun _ _ _ => False) a0 oe cls d0 rfl (hr.mono hk) hot pk hm hz I1.env0 bb r sp) fun rs s' hq => ?_)⟩
    cases rs with
    | error _ => exact hq.elim
    | ok fl =>
      cases fl with
      | ret u => exact I1.after hq
      | next => exact hq.elim
      | brk => exact hq.elim
      | cont => exact hq.elim
  refine ⟨_, pe, fun κ ρ S σ H m Q rl re h => ?_⟩
  refine i.seq rl re h fun d S1 v H1 m1 x1 rl1 re1 r1 h1 => ?_
  split at h1
  · rename_i hn
    exact ⟨by rw [← pairLen r1]; exact hn, κ, d, S1, m1, rl1, r1, PostF.no h1⟩
  · exact h1.elim
/-- isinstance(e, C) of the exception in hand -/
def rIsH (K : PySem.W.Frag) (D0 a0 : Addr) (d0 : Option Addr) : List V → Hp → VK → Prop := fun xs H Q => ∃ (c : V) (cv : Value) (b : Bool), xs = [.ref a0, c] ∧ (∀ u, RelV c u → u = cv) ∧ PySem.W.kitOne K (.ref D0) cv = some b ∧ (∀ d, d0 = some d → ∃ fs, H d = some (.xd fs)) ∧ Q (.bl b) H
theorem call_isH {D0 : Addr} (C : ExcC X.K D0) (hx : HX X a0 cn d0) (hc : X.mg cn = some (.ref D0)) : CallR X (.builtin "isinstance") (rIsH X.K D0 a0 d0) := by
  obtain ⟨oe, cls, hmem, ⟨_, vs0, hd, _⟩, hm, hz⟩ := hx
  rw [hc] at hm
  cases hm
  intro pins s σ H xs us Q I r h
  obtain ⟨c, cv, b, rfl, hcv, e, hdd, q⟩ := h
  rcases r with _ | ⟨rx, _ | ⟨rt, _ | _⟩⟩
  cases rx
  have ec := hcv _ rt
  subst ec
  have g := (I.pin (a0, oe) (List.mem_append_left _ hmem)).1
  have nc : PySem.W.notCls oe := by unfold PySem.W.notCls; rw [hd] <;> rfl
  have J : ∃ od, PySem.W.InstAt s.heap a0 oe D0 od := by
    cases d0 with
    | none => exact ⟨none, g, hz.1, nc, by rw [hz.2.1]; trivial⟩
    | some d =>
      obtain ⟨fs, hfs⟩ := hdd d rfl
      obtain ⟨mA, hns, _⟩ := (I.hok d _ hfs : ObjOk X.prog X.w H s.heap d (.xd fs))
      obtain ⟨od, ho, _⟩ := lookIn_ns hns
      exact ⟨some od, g, hz.1, nc, by rw [hz.2.1]; exact ho⟩
  obtain ⟨od, J⟩ := J
  obtain ⟨cd, hcl, _⟩ := PySem.W.any_some C.hd
  exact PySem.W.kia_one (PySem.W.kitx_exc (by rw [hcl]; rfl) C.hg C.hk C.hs C.ha C.hn C.ht C.hm) I.kIn J e (fun z => nomatch z) fun tk => ⟨.bl b, H, I.kept (t' := tk) fun _ _ z => z, rfl, q⟩
def eIsE (a0 : Addr) (d0 : Option Addr) (b : Bool) (f : ED) : ED := fun ρ S => (f ρ S).bind fun d S1 => match d with
  | .xc a dd _ => if a = a0 ∧ dd = d0 then .ok (.bl b) S1 else .st
  | _ => .st
theorem de_isE {D0 : Addr} {x : Str} {p p2 : Pos} {v : V} {cv : Value} {r : Bool} (C : ExcC X.K D0) (hx : HX X a0 cn d0) (hc : X.mg cn = some (.ref D0)) (hg : Gl X "isinstance") (hm : X.mg "isinstance" = none)
    (hn : PE X (.Name x p2) (tC v)) (hv : ∀ u, RelV v u → u = cv) (hk : PySem.W.kitOne X.K (.ref D0) cv = some r) (he : DE X W e fe)
    (hb : bootBuiltins "isinstance" = some (.builtin "isinstance") := by decide +kernel)
    (hs1 : starEach [e, .Name x p2] X.env = (false, eval e X.env) :: starEach [.Name x p2] X.env := by rfl) (hs2 : starEach [.Name x p2] X.env = (false, eval (.Name x p2) X.env) :: starEach [] X.env := by rfl)
    (hp : (backTo pos (starEach [.Name x p2] X.env)).any (·.1) = false := by rfl) :
    DE X W (.Call (.Name "isinstance" p) [e, .Name x p2] [] pos) (eIsE a0 d0 r fe) := by
  obtain ⟨t, q, i⟩ := he
  refine ⟨_, pe_callB (call_isH C hx hc) hg hm hb (pa_cons q (pa_cons hn pa_nil hs2) hs1) (by decide) (by decide) hs1 hp, fun κ ρ S σ H m Q rl re h => ?_⟩
  refine i.seq rl re h fun d S1 u H1 m1 x1 rl1 re1 r1 h1 => ?_
  split at h1
  · split at h1
    · rename_i a dd fs ea
      obtain ⟨rfl, rfl⟩ := ea
      exact ⟨v, cv, r, by rw [r1.1], hv, hk, fun d e => ⟨_, r1.2 d e⟩, h1.ok' .refl rl1 RD.bl_⟩
    · exact h1.elim
  · exact h1.elim
/-- e.f of the exception in hand -/
def eAttr (a0 : Addr) (d0 : Option Addr) (f : Str) (g : ED) : ED := fun ρ S => (g ρ S).bind fun d S1 => match d with
  | .xc a dd fs => if a = a0 ∧ dd = d0 ∧ d0.isSome = true then (match fs.lookup f with
    | some (.int i) => .ok (.int i) S1
    | some (.str x) => .ok (.str x) S1
    | _ => .st) else .st
  | _ => .st
theorem lookup_sVs {f : Str} {p : PyData} : ∀ {fs : List (Str × PyData)}, fs.lookup f = some p → (sVs fs).lookup f = some (sV p)
  | [], h => by cases h
  | (g, q) :: fs, h => by
    unfold sVs
    rw [List.map_cons]
    rw [List.lookup_cons] at h ⊢
    by_cases e : f == g
    · rw [e] at h ⊢
      simp only at h ⊢
      cases h
      rfl
    · have e : (f == g) = false := by simpa using e
      rw [e] at h ⊢
      exact lookup_sVs h
theorem de_attr {C0 : Addr} {n : Str} (T : XfC X.K C0) (hno : PySem.W.findIn X.K (.ref C0) n = some none) (hx : HX X a0 cn d0) (hc : X.mg cn = some (.ref C0)) (he : DE X W e fe) (hb : attributeBase e n X.env (eval e X.env) = eval e X.env := by rfl) : DE X W (.Attribute e n pos) (eAttr a0 d0 n fe) := by
  obtain ⟨t, q, i⟩ := he
  obtain ⟨oe, cls, hmem, ⟨_, vs0, hd, _⟩, hm, hz⟩ := hx
  rw [hc] at hm
  cases hm
  have pe : PE X (.Attribute e n pos) (fun σ H Q => t σ H fun x H1 => x = .ref a0 ∧ ∃ (d : Addr) (fs : List (Str × V)) (v : V), d0 = some d ∧ H1 d = some (.xd fs) ∧ fs.lookup n = some v ∧ Q v H1) := by
    refine ⟨fun pins s σ H Q I hw => ?_⟩
    refine attr_of hb (thn (q.run pins s σ H _ I hw) fun u s1 hh => ?_)
    obtain ⟨x, H1, I1, rx, rfl, d, fs, v, rfl, ea, l, qq⟩ := hh
    cases rx
    have g := (I1.pin (a0, oe) (List.mem_append_left _ hmem)).1
    obtain ⟨mA, hns, hr⟩ := (I1.hok d _ ea : ObjOk X.prog X.w H1 s1.heap d (.xd fs))
    obtain ⟨od, ho, hl⟩ := lookIn_ns hns
    obtain ⟨u, hu, ru⟩ := RelO.some_of (v := v) (o := mA n) (by rw [← l]; exact hr n)
    have J : PySem.W.InstAt s1.heap a0 oe C0 (some od) := ⟨g, hz.1, by unfold PySem.W.notCls; rw [hd] <;> rfl, by rw [hz.2.1]; exact ho⟩
    exact HandSPX.exc_get I1.kIn J T.ga T.gg T.exC (PySem.W.findObj_own T.hdC hno rfl (by rw [hl, hu])) (handed_of ru) ⟨v, H1, I1.tok _, ru, qq⟩
  refine ⟨_, pe, fun κ ρ S σ H m Q rl re h => ?_⟩
  refine i.seq rl re h fun d S1 u H1 m1 x1 rl1 re1 r1 h1 => ?_
  split at h1
  · split at h1
    · rename_i a dd fs ea
      obtain ⟨rfl, rfl, hs⟩ := ea
      obtain ⟨d1, rfl⟩ := Option.isSome_iff_exists.mp hs
      split at h1
      · rename_i i el
        exact ⟨r1.1, d1, _, _, rfl, r1.2 d1 rfl, lookup_sVs el, h1.ok' .refl rl1 RD.int_⟩
      · rename_i z el
        exact ⟨r1.1, d1, _, _, rfl, r1.2 d1 rfl, lookup_sVs el, h1.ok' .refl rl1 RD.str_⟩
      · exact h1.elim
    · exact h1.elim
  · exact h1.elim
/-! for over range -/
structure DIH (X : Cx) (W : WX) (tg iter : Expr) (f : Env → Sto → Rs IDt) : Prop where
  ex : ∃ wi : TI, L2H.PIH X tg iter wi ∧ Imp X W (fun K m S H (d : IDt) (J : It) => ItOk K m S H J d.1 d.2) wi f
theorem dih_range1 {tg : Expr} {p : Pos} {ga : AD} (hg : Gl X "range") (hm : X.mg "range" = none) (ha : DA X W [a] ga) (hs : starEach [a] X.env = [(false, eval a X.env)] := by rfl) : DIH X W tg (.Call (.Name "range" p) [a] [] pos) (iRgA ga) := by
  obtain ⟨t, q, i⟩ := ha
  refine ⟨_, L2H.pi_range1H hg hm q hs, fun κ ρ S σ H m Q rl re h => ?_⟩
  refine i.seq rl re h fun d S1 v H1 m1 x1 rl1 re1 r1 h1 => ?_
  split at h1
  · split at h1
    · rename_i i hi
      obtain ⟨u, rfl, q1⟩ := RDs1 r1
      have hi' := big62_iff hi
      rw [q1.int]
      exact ⟨i, rfl, hi'.1, hi'.2, h1.ok' .refl rl1 itr_ok⟩
    · exact h1.elim
  · exact h1.elim
theorem ds_forH {tg iter : Expr} {body : List Stmt} {f : Env → Sto → Rs IDt} {g : GD} {fb : SD} (hp : PassesOwn (model X.prog X.w) X.A X.env X.xe) (hx : HX X a0 cn d0) (hi : DIH X W tg iter f) (hg : DG X W tg g) (hb : DSs X W body fb)
    (hs : ∀ x, foldedSetIterable iter X.env x = pure x := by intro _; rfl) : DS X W (.For tg iter body [] pos) (sFor f g fb) := by
  obtain ⟨wi, pi, ii⟩ := hi
  obtain ⟨t, pg, ig⟩ := hg
  obtain ⟨tb, pb, ib⟩ := hb
  exact ⟨_, L2H.ps_forH hp hx.hot pi pg pb hs, imp_for ii ig ib⟩
end
/-! a list comprehension there -/
/-- the block's context, the exception in hand kept in sight -/
abbrev blkH (X : Cx) (s : Shared) (H : Hp) (scope : Scope) (ce : PySem.Env) (fp : List Addr) : Cx := { X.blk s H scope ce fp with pn := X.pn }
section
variable {X : Cx} {pins : List (Addr × Obj)} {σ : St} {H : Hp} {s : Shared} {scope : Scope} {own : List (Str × Nat)} {fp : List Addr}
theorem startH (I : Inv X pins σ H s) (ok : BlkOk X.N X.env.scope scope own) (hN : X.N.Nodup) (hfp : ∀ b ∈ fp, FpOk X pins H b ∧ b < s.heap.objs.size) :
    Inv (blkH X s H scope (compEnvC scope (cellsFrom (s.heap.objs.size + 1) scope.names (cloFrom X.env.cells scope.names [])) s.heap.objs.size X.env) fp) [] (L2.wipe σ (own.map (·.2))) H { s with heap := pushCells (s.heap.push { cls := .type "dict", data := .dict #[] }) scope.names } := by
  have J := block_start I ok hN hfp
  have o := J.ok
  refine ⟨⟨o.mod, o.kind, o.glob, o.blt, o.above, o.inj, o.has, o.cab, o.hd, o.frames, o.stk, o.exf, o.bs, o.bsz, o.noex, o.exfs, o.funs, o.frf⟩, J.os, J.bare, J.base, J.loc, J.cell, J.free, J.freeC, fun q hq => ?_, J.hok, J.len⟩
  have hq : q ∈ X.pn := by simpa using (show q ∈ X.pn ++ [] from hq)
  obtain ⟨e1, e2, e3, e4, e5⟩ := I.pin q (List.mem_append_left _ hq)
  refine ⟨pushCells_keeps _ _ _ _ (Heap.get?_push_of_some _ e1), e2, Nat.ne_of_lt (Heap.lt_size e1), fun z => ?_, e5⟩
  rcases List.mem_cons.mp (I.stkSub q.1 z) with z | z
  · exact e3 z
  · exact e4 z
theorem pe_lcH {elt tg iter : Expr} {ifs : List Expr} {pos : Pos} {wi : TI} {g : TG} {tt : TT} {te : TE} (hc : L2H.HotC X) (hN : X.N.Nodup) (hi : L2H.PIH X tg iter wi) (ok : BlkOk X.N X.env.scope scope own)
    (hg : ∀ (s : Shared) (H : Hp) (C : Addr) (cl : List (Str × Addr)) (fp : List Addr), PG (blkH X s H scope (compEnvC scope cl C X.env) fp) tg g)
    (ht : ∀ (s : Shared) (H : Hp) (C : Addr) (cl : List (Str × Addr)) (fp : List Addr), PTs (blkH X s H scope (compEnvC scope cl C X.env) fp) ifs tt)
    (he : ∀ (s : Shared) (H : Hp) (C : Addr) (cl : List (Str × Addr)) (fp : List Addr), PE (blkH X s H scope (compEnvC scope cl C X.env) fp) elt te)
    (hs : ∀ x, foldedSetIterable iter X.env x = pure x := by intro _; rfl) : PE X (.ListComp elt [⟨tg, iter, ifs, 0⟩] scope pos) (tLc wi g tt te (own.map (·.2))) := by
  refine ⟨fun pins s σ H Q I hw => ?_⟩
  rw [eval_ListComp]
  have clo : closureFor scope X.env = pure (cloFrom X.env.cells scope.names []) := closure_ok fun y hy e => by
    rcases ok.free y hy e with q | q
    · exact I.ok.has _ (.inl q)
    · exact I.ok.has _ (.inr q)
  have hHot : ∀ (s : Shared) (H : Hp) (ce : PySem.Env) (fp : List Addr), L2H.HotC (blkH X s H scope ce fp) := fun _ _ _ _ => hc
  refine wpAny_comprehension_free (use := none) rfl hs clo ok.kind (fun y hy e => by rw [ok.uniq y hy, e]) (thn (hi.run pins s σ H _ I hw) fun xv sa hx => thn hx fun itv sb hb => ?_)
  obtain ⟨it, fp, tn, J, Hb, rfl, Ib, T, stb, fb, q⟩ := hb
  refine wpAny_newObj_type (newEnv_comp ?_) (Nat.zero_le _)
  -- the list that grows stands at L
  obtain ⟨L, hL⟩ : ∃ L, L = sb.heap.objs.size := ⟨_, rfl⟩
  have free : Hb L = none := Ib.hok.fresh (Nat.le_of_eq hL.symm)
  obtain ⟨Wv, ⟨m0, w0⟩, turn⟩ := q L free
  obtain ⟨sc, hsc⟩ : ∃ sc : Shared, sc = { sb with heap := sb.heap.push { cls := .type "list", data := .seq ([] : List Value).toArray } } := ⟨_, rfl⟩
  have hsz : sb.heap.objs.size < sc.heap.objs.size := by rw [hsc]; show _ < (Heap.push _ _).objs.size; rw [Heap.size_push]; exact Nat.lt_succ_self _
  have kbc : ∀ b o, sb.heap.get? b = some o → sc.heap.get? b = some o := fun b o e => by rw [hsc]; exact Heap.get?_push_of_some _ e
  have Ic : Inv X pins σ (upd Hb L (.lst [])) sc := by
    rw [hsc, hL]
    exact Ib.laid (t' := sb.toks) (fun b o e => Heap.get?_push_of_some _ e) (Nat.le_refl _) ⟨Nat.zero_le _, [], 0, .nil, Heap.get?_push_size _ rfl⟩
  have fc : ∀ b ∈ fp, FpOk X pins (upd Hb L (.lst [])) b ∧ b < sc.heap.objs.size := fun b hb => by
    obtain ⟨o, e, _⟩ := T.obj _ _ stb b hb
    have lt := Heap.lt_size e
    refine ⟨⟨?_, (fb b hb).2⟩, Nat.lt_trans lt hsz⟩
    rw [upd_ne (by rw [hL]; exact Nat.ne_of_lt lt)]
    exact (fb b hb).1
  have Id := startH Ic ok hN fc
  have pg := hg sc (upd Hb L (.lst [])) sc.heap.objs.size (cellsFrom (sc.heap.objs.size + 1) scope.names (cloFrom X.env.cells scope.names [])) fp
  have pt := ht sc (upd Hb L (.lst [])) sc.heap.objs.size (cellsFrom (sc.heap.objs.size + 1) scope.names (cloFrom X.env.cells scope.names [])) fp
  have pe := he sc (upd Hb L (.lst [])) sc.heap.objs.size (cellsFrom (sc.heap.objs.size + 1) scope.names (cloFrom X.env.cells scope.names [])) fp
  have hot := hHot sc (upd Hb L (.lst [])) (compEnvC scope (cellsFrom (sc.heap.objs.size + 1) scope.names (cloFrom X.env.cells scope.names [])) sc.heap.objs.size X.env) fp
  have std : tn 0 (pushCells (sc.heap.push { cls := .type "dict", data := .dict #[] }) scope.names) := T.keep _ _ _ stb fun b _ o e => pushCells_keeps _ _ _ _ (Heap.get?_push_of_some _ (kbc b o e))
  rw [← hL, ← hsc]
  show codeAny _ _ (.compStart (.ListComp elt [⟨tg, iter, ifs, 0⟩] scope pos) 0 (.ref it) (.ref L) (compEnvC scope (cellsFrom (sc.heap.objs.size + 1) scope.names (cloFrom X.env.cells scope.names [])) sc.heap.objs.size X.env)) (compPost (model X.prog X.w) X.A X.xe none _ (.ref L) sc.heap.objs.size)
    { sc with heap := pushCells (sc.heap.push { cls := .type "dict", data := .dict #[] }) scope.names }
  obtain ⟨ce, hce⟩ : ∃ ce, ce = compEnvC scope (cellsFrom (sc.heap.objs.size + 1) scope.names (cloFrom X.env.cells scope.names [])) sc.heap.objs.size X.env := ⟨_, rfl⟩
  have hcl : ce.locals = sc.heap.objs.size := by rw [hce]; rfl
  rw [← hce] at Id pg pt pe hot ⊢
  obtain ⟨Hc, hHc⟩ : ∃ Hc, Hc = upd Hb L (.lst []) := ⟨_, rfl⟩
  rw [← hHc] at Ic Id pg pt pe hot w0 fc
  obtain ⟨sd, hsd⟩ : ∃ sd : Shared, sd = { sc with heap := pushCells (sc.heap.push { cls := .type "dict", data := .dict #[] }) scope.names } := ⟨_, rfl⟩
  rw [← hsd] at Id ⊢
  have std : tn 0 sd.heap := by rw [hsd]; exact std
  let Y := blkH X sc Hc scope ce fp
  have fpY : ∀ {τ : St} {H' : Hp} {s' : Shared}, Inv Y [] τ H' s' → (∀ b ∈ fp, H' b = none) → ∀ b ∈ fp, FpOk Y [] H' b := fun {τ H' s'} I' hn b hb => by
    refine ⟨hn b hb, (I'.ok.exf b hb).1, I'.ok.exfs b hb, .inl hb, fun x c e => (I'.ok.exf b hb).2 x c e, fun p hp => ?_⟩
    have hp : p ∈ X.pn := by simpa using (show p ∈ X.pn ++ [] from hp)
    exact (fc b hb).1.2.2.2.2.2 p (List.mem_append_left _ hp)
  have loop : codeAny (model X.prog X.w) X.A (.compLoop (.ListComp elt [⟨tg, iter, ifs, 0⟩] scope pos) 0 (.ref it) (.ref L) ce) (compPost (model X.prog X.w) X.A X.xe none (fun v s' => ∃ x H', Inv X pins σ H' s' ∧ RelV x v ∧ Q x H') (.ref L) sc.heap.objs.size) sd := by
    refine compLoop_any (fun n s' => ∃ i H', Wv i n H' ∧ Inv Y [] (L2.wipe σ (own.map (·.2))) H' s' ∧ tn i s'.heap ∧ ∀ b ∈ fp, H' b = none) ?_ m0 ⟨0, Hc, w0, Id, std, fun b hb => (fc b hb).1.1⟩
    rintro n s5 ⟨i, H5, w5, I5, st5, n5⟩
    rcases turn i n H5 w5 with ⟨stop, fin⟩ | ⟨go, Nxt, hNxt, step⟩
    · refine thnF (T.done Y rfl rfl rfl hot i [] s5 _ H5 (fun _ _ => False) I5 (fpY I5 n5) st5 stop) fun r s6 hr => ?_
      obtain ⟨rfl, I6⟩ := hr
      have back : Inv X pins σ H5 s6 := Ic.call' (ch := fp) I6.os I6.base I6.hok I6.bare fun b hb => by
        obtain ⟨_, f1, _, f3, f4, f5⟩ := (fc b hb).1
        exact ⟨f3, f1, f4, f5⟩
      have nC : H5 sc.heap.objs.size = none := by rw [← hcl]; exact I6.free
      obtain ⟨mm, hmm, _⟩ := I6.loc
      have hmm : s6.heap.Ns ce.locals mm := hmm
      rw [hcl] at hmm
      refine ⟨mm, hmm, fun h' but => ?_⟩
      obtain ⟨f0, f1, f2, f3, f4, f5⟩ := Ic.fpOk (Nat.le_refl _) nC
      exact ⟨.ref L, H5, back.turned (t' := s6.toks) (fun b o hb e => (but.2 b hb).trans e) f0 f1 f3 f4 f5, rfl, fin⟩
    · refine thnF (T.item Y rfl rfl rfl hot i [] s5 _ H5 (fun _ _ => False) I5 (fpY I5 n5) st5 go) fun r s6 hr => ?_
      obtain ⟨u, rfl, h6⟩ := hr
      refine thnF h6 fun _ s7 h7 => ?_
      obtain ⟨x, H7, I7, r7, y7, st7, n7⟩ := h7
      have Ip := I7.pinned (fpY I7 n7) (T.obj _ _ st7)
      refine thnF (pg.run _ s7 _ H7 x u _ Ip r7 (step x H7 y7)) fun _ s8 h8 => ?_
      obtain ⟨τ, H8, I8, wp8, q8⟩ := h8
      refine thnF (pt.run _ s8 τ H8 _ I8 q8) fun b s9 h9 => ?_
      obtain ⟨H9, I9, q9⟩ := h9
      have again : ∀ {s' : Shared} {H' : Hp}, Inv Y ([] ++ pinsAt fp s7.heap) τ H' s' → Nxt H' → ∃ m, m < n ∧ ∃ i H', Wv i m H' ∧ Inv Y [] (L2.wipe σ (own.map (·.2))) H' s' ∧ tn i s'.heap ∧ ∀ b ∈ fp, H' b = none := fun {s' H'} I' nx => by
        obtain ⟨m', hm, w'⟩ := hNxt H' nx
        have kept : ∀ b ∈ fp, ∀ o, s7.heap.get? b = some o → s'.heap.get? b = some o ∧ H' b = none := fun b hb o e => by
          have z := I'.pin (b, o) (List.mem_append_right _ (List.mem_append_right _ (mem_pinsAt hb e)))
          exact ⟨z.1, z.2.1⟩
        have ln : (L2.wipe σ (own.map (·.2))).length = τ.length := by rw [← wp8, wipe_length]
        refine ⟨m', hm, i + 1, H', w', (I'.unpinned (pins := [])).weak ln (fun j v e => ?_), T.keep _ _ _ st7 fun b hb o e => (kept b hb o e).1, fun b hb => ?_⟩
        · rw [← wp8] at e
          exact (wipe_some e).1
        · obtain ⟨o, e, _⟩ := T.obj _ _ st7 b hb
          exact (kept b hb o e).2
      cases b with
      | false => exact again I9 q9
      | true =>
        refine thnF (pe.run _ s9 τ H9 _ I9 q9) fun z s10 h10 => ?_
        obtain ⟨yv, H10, I10, r10, acc, hL10, hz10, nx⟩ := h10
        exact app_ok (X := Y) I10 hL10 hz10 r10 fun s11 I11 => again I11 nx
  exact codeAny_compStart_list loop (T.self X.A 0 _ _ _ std loop)
end
section
variable {X : Cx} {W : WX} {a0 : Addr} {cn : Str} {d0 : Option Addr} {pos : Pos}
variable {elt tg iter : Expr} {ifs : List Expr} {scope : Scope} {own : List (Str × Nat)} {fi : Env → Sto → Rs IDt} {g : GD} {c : BD} {f : ED}
theorem de_lcH (hx : HX X a0 cn d0) (hN : X.N.Nodup) (hi : DIH X W tg iter fi) (ok : BlkOk X.N X.env.scope scope own)
    (hg : ∀ (s : Shared) (H : Hp) (C : Addr) (cl : List (Str × Addr)) (fp : List Addr), DGw (blkH X s H scope (compEnvC scope cl C X.env) fp) tg (own.map fun x => x.2) g)
    (ht : ∀ (s : Shared) (H : Hp) (C : Addr) (cl : List (Str × Addr)) (fp : List Addr), DTs (blkH X s H scope (compEnvC scope cl C X.env) fp) (fun _ _ _ _ => False) ifs c)
    (he : ∀ (s : Shared) (H : Hp) (C : Addr) (cl : List (Str × Addr)) (fp : List Addr), DE (blkH X s H scope (compEnvC scope cl C X.env) fp) (fun _ _ _ _ => False) elt f)
    (hs : ∀ x, foldedSetIterable iter X.env x = pure x := by intro _; rfl) : DE X W (.ListComp elt [⟨tg, iter, ifs, 0⟩] scope pos) (eLc fi g c f (own.map fun x => x.2)) := by
  obtain ⟨wi, pi, ii⟩ := hi
  exact ⟨_, @pe_lcH X scope own elt tg iter ifs pos wi (canG X (List.map (fun (x : Str × Nat) => x.2) own) g) (can X (fun _ _ _ _ => False) RB c) (can X (fun _ _ _ _ => False) RD f) hx.hot hN pi ok (fun s H C cl fp => (hg s H C cl fp).run) (fun s H C cl fp => (ht s H C cl fp).run) (fun s H C cl fp => (he s H C cl fp).can) hs, imp_lc ii⟩
end
/-- what is never reached -/
theorem de_any {X : Cx} {W : WX} {e : Expr} : DE X W e (fun _ _ => .st) := ⟨fun _ _ _ => False, ⟨fun _ _ _ _ _ _ h => h.elim⟩, fun _ _ _ _ _ _ _ _ _ h => h.elim⟩
theorem roomH_mark {j : Nat} {A : Around} {v : Option Value} (r : Room j A) : L2H.RoomH j (A.mark v) := ⟨r.dp, r.un⟩
end DL

namespace DL
open PySem PySem.Spec PyProof.Rows L2
/-! ### what a def does, by its body -/
open Classical in
/-- of what stands behind the body, what the caller sees -/
noncomputable def pick (S S' : Sto) (d : D) : Rs D :=
  if S.length ≤ S'.length ∧ ClS S.length (S'.take S.length) ∧ ClD S.length d then .ok d (S'.take S.length)
  else if S.length ≤ S'.length ∧ ClS S'.length S' ∧ ClD S'.length d then .ok d S' else .st
open Classical in
noncomputable def pickX (S S' : Sto) (x : Xc) : Rs D := if S.length ≤ S'.length ∧ ClS S.length (S'.take S.length) then .ex x (S'.take S.length) else .st
noncomputable def gB (N : List Str) (F : SD) : FD := fun ds S => match F (start0 N ds) S with
  | .rt d S' => pick S S' d
  | .nx _ S' => pick S S' .non
  | .ex x _ S' => pickX S S' x
  | _ => .st
theorem gB_dn (N : List Str) (F : SD) (ds : List D) (S : Sto) : Dn S (F (start0 N ds) S) (gB N F ds S) := by
  unfold gB
  cases e : F (start0 N ds) S with
  | st => trivial
  | bk _ _ => trivial
  | ct _ _ => trivial
  | rt d S' =>
    show Dn S _ (pick S S' d)
    unfold pick
    split
    · rename_i h
      have hl : (S'.take S.length).length = S.length := by rw [List.length_take]; omega
      exact ⟨by rw [hl]; exact Nat.le_refl _, by rw [hl]; exact h.2.1, by rw [hl]; exact h.2.2, .inl ⟨S'.drop S.length, by rw [List.take_append_drop]⟩⟩
    · split
      · rename_i h
        exact ⟨h.1, h.2.1, h.2.2, .inl ⟨[], by rw [List.append_nil]⟩⟩
      · trivial
  | nx ρ S' =>
    show Dn S _ (pick S S' .non)
    unfold pick
    split
    · rename_i h
      have hl : (S'.take S.length).length = S.length := by rw [List.length_take]; omega
      exact ⟨by rw [hl]; exact Nat.le_refl _, by rw [hl]; exact h.2.1, by rw [hl]; exact h.2.2, .inr ⟨rfl, ρ, S'.drop S.length, by rw [List.take_append_drop]⟩⟩
    · split
      · rename_i h
        exact ⟨h.1, h.2.1, h.2.2, .inr ⟨rfl, ρ, [], by rw [List.append_nil]⟩⟩
      · trivial
  | ex x ρ S' =>
    show Dn S _ (pickX S S' x)
    unfold pickX
    split
    · rename_i h
      have hl : (S'.take S.length).length = S.length := by rw [List.length_take]; omega
      exact ⟨by rw [hl]; exact Nat.le_refl _, by rw [hl]; exact h.2, ρ, S'.drop S.length, by rw [List.take_append_drop]⟩
    · trivial
theorem take_left' {S2 T : Sto} {n : Nat} (h : S2.length = n) : (S2 ++ T).take n = S2 := by rw [← h, List.take_left']; rfl
theorem gB_rt {N : List Str} {F : SD} {ds : List D} {S S2 T : Sto} {d : PyData} (e : F (start0 N ds) S = .rt (.p d) (S2 ++ T)) (hl : S2.length = S.length) (hc : ClS S.length S2) : gB N F ds S = .ok (.p d) S2 := by
  unfold gB
  rw [e]
  show pick S (S2 ++ T) (.p d) = _
  unfold pick
  rw [take_left' hl, if_pos ⟨by rw [List.length_append]; omega, hc, trivial⟩]
theorem gB_nx {N : List Str} {F : SD} {ds : List D} {S S2 T : Sto} {ρ : Env} (e : F (start0 N ds) S = .nx ρ (S2 ++ T)) (hl : S2.length = S.length) (hc : ClS S.length S2) : gB N F ds S = .ok .non S2 := by
  unfold gB
  rw [e]
  show pick S (S2 ++ T) .non = _
  unfold pick
  rw [take_left' hl, if_pos ⟨by rw [List.length_append]; omega, hc, trivial⟩]
theorem gB_ex {N : List Str} {F : SD} {ds : List D} {S S2 T : Sto} {ρ : Env} {x : Xc} (e : F (start0 N ds) S = .ex x ρ (S2 ++ T)) (hl : S2.length = S.length) (hc : ClS S.length S2) : gB N F ds S = .ex x S2 := by
  unfold gB
  rw [e]
  show pickX S (S2 ++ T) x = _
  unfold pickX
  rw [take_left' hl, if_pos ⟨by rw [List.length_append]; omega, hc⟩]
section
variable {P : Program} {w : World} {K : PySem.W.Frag} {mg : Str → Option Value} {base : Heap}
abbrev FunS (K : PySem.W.Frag) (x : Str) (st : Stmt) (f : Addr) (fd : FuncData) : Prop := FunD K x x (defArgs st) (defBody st) (defScope st) [] [] f fd
abbrev BindsAs (x : Str) (st : Stmt) (ps : List Str) : Prop := ∀ (kV doc pm : Value) (an : Option Addr) (cdv ct : Value) (us : List Value), us.length = ps.length → bindArgs (PySem.W.fnOf x x (defArgs st) (defBody st) (defScope st) .none kV doc pm an cdv ct) ⟨us, []⟩ = pure (ps.zip us)
/-- a def is what its body says -/
theorem fn_dl {x : Str} {st : Stmt} {f : Addr} {fd : FuncData} {N ps : List Str} {k n : Nat} {F : SD} (Fu : FunS K x st f fd) (Sc : FnScope N ps (defScope st)) (gm : mg x = some (.ref f)) (bd : BindsAs x st ps) (hn : ps.length = n)
    (body : ∀ (cdv : Value) (A : Around) (outer : List PySem.Env) (s : Shared) (H : Hp) (E : XK), Room k (A.deeper (envOfC x (defScope st) s.heap.objs.size f cdv)) →
      DSs (cxOf CX0 P w K mg base N x (defScope st) f cdv A outer s H E).nox (fun _ _ _ _ => False) (defBody st) F) : FnD P w K mg base (k + 1) x n (gB N F) := by
  refine ⟨f, fd, ps, hn, gm, Fu.kp, Fu.bindsN bd, Fu.ok (CX := CX0) Sc (fun vs H Q E h => h.1.trans hn.symm) fun cdv A outer s H vs Q E hr h => ?_⟩
  obtain ⟨hl, κ, ds, S, m, rl, rd, po⟩ := h
  obtain ⟨t, pt, it⟩ := body cdv A outer s H E hr
  refine ⟨t, pt.nox, it κ (start0 N ds) S (L2.start N vs) H m _ rl (RE_start rd) ?_⟩
  refine post_of (E := fun _ _ _ => False) rl (gB_dn N F ds S) ?_ (fun _ _ _ _ z => z)
  have po : PostF ⟨K, κ⟩ mg m S H (noEx (gB N F ds S)) Q E := po
  cases e : gB N F ds S with
  | st => rw [e] at po; exact po.elim
  | ok d S' => rw [e] at po; exact po
  | ex y S' => rw [e] at po; exact po.elim
theorem fn_dlN {x : Str} {st : Stmt} {f : Addr} {fd : FuncData} {N ps : List Str} {k n : Nat} {F : SD} (Fu : FunS K x st f fd) (Sc : FnScope N ps (defScope st)) (gm : mg x = some (.ref f)) (bd : BindsAs x st ps) (hn : ps.length = n)
    (body : ∀ (cdv : Value) (A : Around) (outer : List PySem.Env) (s : Shared) (H : Hp) (E : XK), Room k (A.deeper (envOfC x (defScope st) s.heap.objs.size f cdv)) →
      DSs (cxOf (L2N.CX P w) P w K mg base N x (defScope st) f cdv A outer s H E) (fun cls d _ H => E cls d H) (defBody st) F) : FnN P w K mg base (k + 1) x n (gB N F) := by
  refine ⟨f, fd, ps, hn, gm, Fu.kp, Fu.bindsN bd, Fu.ok (CX := L2N.CX P w) Sc (fun vs H Q E h => h.1.trans hn.symm) fun cdv A outer s H vs Q E hr h => ?_⟩
  obtain ⟨hl, κ, ds, S, m, rl, rd, po⟩ := h
  obtain ⟨t, pt, it⟩ := body cdv A outer s H E hr
  refine ⟨t, pt, it κ (start0 N ds) S (L2.start N vs) H m _ rl (RE_start rd) ?_⟩
  exact post_of (E := E) rl (gB_dn N F ds S) po (fun _ _ _ _ z => z)
theorem fn_dlK {x : Str} {st : Stmt} {f : Addr} {fd : FuncData} {N ps : List Str} {k n : Nat} {cn : Str} {dk : Bool} {F : Addr → Option Addr → SD} (Fu : FunS K x st f fd) (Sc : FnScope N ps (defScope st)) (gm : mg x = some (.ref f)) (bd : BindsAs x st ps) (hn : ps.length = n)
    (body : ∀ (cdv : Value) (A : Around) (outer : List PySem.Env) (s : Shared) (H : Hp) (E : XK) (p : Addr × Obj) (d : Option Addr), d.isSome = dk → L2H.RoomH k (A.deeper (envOfC x (defScope st) s.heap.objs.size f cdv)) → HX (hotX P w K mg base N x st f cdv A outer s H E p) p.1 cn d →
      DSs (hotX P w K mg base N x st f cdv A outer s H E p) (fun _ _ _ _ => False) (defBody st) (F p.1 d)) : FnK P w K mg base (k + 1) x n cn dk (fun a d => gB N (F a d)) := by
  subst hn
  have key : ∀ (oc : Value) (od : Option Addr) (dV kV doc pm : Value) (an : Option Addr) (cdv ct : Value) (osl : Array (Option Value)), fd = PySem.W.fnOf x x (defArgs st) (defBody st) (defScope st) dV kV doc pm an cdv ct → K.lookup f = some ⟨oc, od, .func fd, osl⟩ → PySem.W.codeIn K cdv x = true → dV = .none → Fun K x x st f fd := by
    rintro oc od dV kV doc pm an cdv ct osl rfl l c rfl
    exact ⟨⟨oc, od, kV, doc, pm, an, cdv, ct, osl, rfl, l, c⟩, Fu.kp⟩
  obtain ⟨oc, od, dV, kV, doc, pm, an, cdv, ct, osl, e, l, c, dv, _⟩ := Fu.ex
  have hdV : dV = .none := by
    rcases dv with ⟨_, h⟩ | ⟨h, _⟩
    · exact h
    · exact absurd rfl h
  exact Fun.dlK (key oc od dV kV doc pm an cdv ct osl e l c hdV) Sc gm (Fu.bindsN bd) body (fun a d ds S _ _ _ => gB_dn N (F a d) ds S)
end
section
variable {P : Program} {w : World} {K : PySem.W.Frag} {mg : Str → Option Value} {base : Heap}
theorem fnD_st {x : Str} {st : Stmt} {f : Addr} {fd : FuncData} {ps : List Str} {k n : Nat} (Fu : FunS K x st f fd) (gm : mg x = some (.ref f)) (bd : BindsAs x st ps) (hn : ps.length = n) : FnD P w K mg base k x n (fun _ _ => .st) := by
  refine ⟨f, fd, ps, hn, gm, Fu.kp, Fu.bindsN bd, ⟨fun vs H Q E h => h.1.trans hn.symm, fun A outer s H ar us vs Q E hr e0 hb r h => ?_⟩⟩
  obtain ⟨_, _, _, _, _, _, _, po⟩ := h
  exact po.elim
theorem fn_okS {x : Str} {st : Stmt} {f : Addr} {fd : FuncData} {N ps : List Str} {k n : Nat} {F : SD} (Fu : FunS K x st f fd) (Sc : FnScope N ps (defScope st))
    (body : ∀ (cdv : Value) (A : Around) (outer : List PySem.Env) (s : Shared) (H : Hp) (E : XK), Room k (A.deeper (envOfC x (defScope st) s.heap.objs.size f cdv)) →
      DSs (cxOf CX0 P w K mg base N x (defScope st) f cdv A outer s H E).nox (fun _ _ _ _ => False) (defBody st) F) (hn : ps.length = n := by rfl) : FnOk P w K mg base CX0 (k + 1) f fd ps (spOf K mg n fun ds S => noEx (gB N F ds S)) := by
  refine Fu.ok (CX := CX0) Sc (fun vs H Q E h => h.1.trans hn.symm) fun cdv A outer s H vs Q E hr h => ?_
  obtain ⟨hl, κ, ds, S, m, rl, rd, po⟩ := h
  obtain ⟨t, pt, it⟩ := body cdv A outer s H E hr
  refine ⟨t, pt.nox, it κ (start0 N ds) S (L2.start N vs) H m _ rl (RE_start rd) ?_⟩
  refine post_of (E := fun _ _ _ => False) rl (gB_dn N F ds S) ?_ (fun _ _ _ _ z => z)
  have po : PostF ⟨K, κ⟩ mg m S H (noEx (gB N F ds S)) Q E := po
  cases e : gB N F ds S with
  | st => rw [e] at po; exact po.elim
  | ok d S' => rw [e] at po; exact po
  | ex y S' => rw [e] at po; exact po.elim
theorem funS_same {x : Str} {st : Stmt} {f : Addr} {fd fd' : FuncData} (a : FunS K x st f fd) (b : FunS K x st f fd') : fd = fd' := by
  obtain ⟨_, _, _, _, _, _, _, _, _, _, _, l1, _⟩ := a.ex
  obtain ⟨_, _, _, _, _, _, _, _, _, _, _, l2, _⟩ := b.ex
  have e := l1.symm.trans l2
  injection e with e
  injection e with _ _ e _
  injection e
end
/-! ### the head -/
/-- what is seen: what the module's names reach, and the interpreter's own statics -/
def asM (g : Addr → Option Obj) (n : Nat) : List Addr := He.asD g n ++ [cStatics]
/-- more that is seen of the top -/
def hookM (n : Nat) (fa : List He.Fa) (fn : List He.DefD) (more : PySem.W.Frag → Bool) : PySem.W.Hook where
  α := He.AlD × Bool
  obs := fun s => (He.obsD fa fn (He.frG s.heap.get? (asM s.heap.get? n)), more (He.frG s.heap.get? (asM s.heap.get? n)))
  val := fun _ => (He.valD fn, true)
  says := fun _ h => ∃ K : PySem.W.Frag, K.In h ∧ He.SaysD fa fn K ∧ more K = true
  of := fun _ _ e => ⟨_, He.frG_in, congrArg Prod.fst e, congrArg Prod.snd e⟩
  keeps := fun _ _ _ ⟨K, hK, c⟩ k => ⟨K, PySem.W.Frag.In.keeps hK k, c⟩
def obM (n : Nat) (fa : List He.Fa) (fn : List He.DefD) (more : PySem.W.Frag → Bool) (s : PySem.W.SharedT) : He.AlD × Bool := (He.obsD fa fn (He.frG (HandSHeadRun.getT s) (asM (HandSHeadRun.getT s) n)), more (He.frG (HandSHeadRun.getT s) (asM (HandSHeadRun.getT s) n)))
theorem obM_eq {n : Nat} {fa : List He.Fa} {fn : List He.DefD} {more : PySem.W.Frag → Bool} (s : PySem.W.SharedT) : obM n fa fn more s = (hookM n fa fn more).obs s.abs := by
  have e : HandSHeadRun.getT s = s.abs.heap.get? := funext (HandSHeadRun.getT_eq s)
  unfold obM
  rw [e]
  rfl
/-- an own class of exceptions that isinstance may be asked of -/
def excB (K : PySem.W.Frag) (D0 : Addr) : Bool :=
  He.eqO (PySem.W.findIn K (.ref D0) "__getattribute__") (some (some (.builtin "BaseException.__getattribute__"))) && (He.eqO (PySem.W.findIn K (.ref D0) "__getattr__") (some none) && (decide (PySem.W.subIn K (.ref D0) (.type "BaseException") = some true) && (PySem.W.hasDictIn K D0 &&
  (He.eqO (PySem.W.findIn K (.ref D0) "__class__") (some (some (.builtin "object.__class__"))) && (He.eqO (PySem.W.specialIn K (.builtin "object.__class__") "__get__") (some (some (.builtin "getset_descriptor.__get__"))) && (decide (PySem.W.takesIn K (.builtin "object.__class__") = some true) && decide (PySem.W.mroIn K D0 (.type "object") = some true)))))))
theorem excB_ok {K : PySem.W.Frag} {D0 : Addr} (h : excB K D0 = true) : ExcC K D0 := by
  unfold excB at h
  simp only [Bool.and_eq_true] at h
  obtain ⟨h1, h2, h3, h4, h5, h6, h7, h8⟩ := h
  exact ⟨He.eqO_ok h1, He.eqO_ok h2, of_decide_eq_true h3, h4, He.eqO_ok h5, He.eqO_ok h6, of_decide_eq_true h7, of_decide_eq_true h8⟩
def kitB1 (K : PySem.W.Frag) (a : Value) (c : Value) (b : Bool) : Bool := decide (PySem.W.kitOne K a c = some b)
/-- the law's end -/
theorem law_sp {K : PySem.W.Frag} {mg : Str → Option Value} {g : FD} {H : Hp} {a : Addr} {ns : List Int} {S' : Sto} (hO : Only H) (hS : SqL K H a (ns.map V.int)) (e : g [.scr ns] [] = .ok (.bl true) S') :
    spOf K mg 1 (fun ds S => noEx (g ds S)) [.ref a] H (fun v _ => v = .bl true) (fun _ _ _ => False) := by
  refine ⟨rfl, fun _ => False, [.scr ns], [], [], ⟨rfl, List.nodup_nil, fun _ h => h.elim, fun n a o h => by simp at h⟩, .cons ⟨a, rfl, ?_⟩ .nil, ?_⟩
  · rcases hS with (h | ⟨o, h⟩) | h
    · rcases hO a with z | ⟨o, xs, z⟩
      · rw [z] at h; cases h
      · rw [z] at h; cases h
    · exact .inl ⟨o, h⟩
    · exact .inr (.inr h)
  · show PostF _ _ _ _ _ (noEx (g [.scr ns] [])) _ _
    rw [e]
    intro v H' m' _ _ r
    have r : RP _ _ _ _ _ := r
    rw [RP] at r
    exact r
end DL

namespace DL
open PySem PySem.Spec PyProof.Rows L2
/-! ### own exceptions with a making of their own -/
def oexB (K : PySem.W.Frag) (C : Addr) : Bool := (match K.lookup C with
  | some ⟨.type t, _, .cls cd, sl⟩ => (match cd.mro, sl.toList with
    | .ref c0 :: bm, [_, _, _, _, some (.builtin n), _] => decide (t = "type") && (decide (c0 = C) && (decide (n = "ValueError.__new__") && (!cd.hasDel && (cd.hasDict && PySem.HandSPX.refsVE bm))))
    | _, _ => false)
  | _ => false) && (He.eqO (PySem.W.findIn K (.ref C) "__setattr__") (some (some (.builtin "object.__setattr__"))) && (decide (PySem.W.subIn K (.ref C) (.type "BaseException") = some true) && (decide (PySem.W.typeIn K (.ref C) = some (.type "type")) && PySem.W.keepIn K (.ref C))))
theorem oexB_ok {K : PySem.W.Frag} {C : Addr} (h : oexB K C = true) : OexC K C := by
  unfold oexB at h
  simp only [Bool.and_eq_true] at h
  obtain ⟨h1, h2, h3, h4, h5⟩ := h
  refine ⟨?_, He.eqO_ok h2, of_decide_eq_true h3, of_decide_eq_true h4, h5⟩
  split at h1
  · rename_i t dd cd sl hk
    split at h1
    · rename_i c0 bm k0 k1 k2 k3 n k5 hm hs
      simp only [Bool.and_eq_true, decide_eq_true_eq, Bool.not_eq_true'] at h1
      obtain ⟨rfl, rfl, rfl, hdel, hd, hv⟩ := h1
      obtain ⟨nm, bs, mro, ns, qn, hdct, sn, sub, ab, col, del⟩ := cd
      dsimp only at hm hdel hd
      subst hm hdel hd
      have hsl : sl = #[k0, k1, k2, k3, some (.builtin "ValueError.__new__"), k5] := by
        obtain ⟨l⟩ := sl
        simp only at hs
        rw [hs]
      subst hsl
      exact ⟨nm, qn, ns, bs, bm, sn, sub, ab, col, dd, k0, k1, k2, k3, k5, hk, hv⟩
    · cases h1
  · cases h1
section
variable {X : Cx} {e : Expr} {es : List Expr} {ta : TA} {p1 p2 pos : Pos}
/-- P.__init__(self, ..), P an own class that makes as ValueError does -/
theorem pe_clsinit {pl : Sem Bool} {x : Str} {P0 : Addr} (hg : Gl X x) (hm : X.mg x = some (.ref P0)) (hr : PySem.W.readsIn X.K P0 (.type "type") = true) (vV : PySem.W.findCls X.K (.ref P0) (.type "type") "__init__" = some (.val (.builtin "ValueError.__init__")))
    (hs : PySem.W.specialIn X.K (.ref P0) "__getattribute__" = some (some (.builtin "type.__getattribute__"))) (ha : PA X (e :: es) ta)
    (hc : eval (.Call (.Attribute (.Name x p1) "__init__" p2) (e :: es) [] pos) X.env = (do
      let ov ← eval (.Name x p1) X.env
      standAt p2.atName
      let (f, first) ← holding [ov] (getMethod ov "__init__" pl)
      callWith pos f first (backTo pos (starEach (e :: es) X.env)) (backToKw pos (keywordEach [] X.env))) := by rfl)
    (he : starEach (e :: es) X.env = (false, eval e X.env) :: starEach es X.env := by rfl) (hpl : (backTo pos (starEach es X.env)).any (·.1) = false := by rfl) (hd : (x == ("__debug__" : Str)) = false := by decide) :
    PE X (.Call (.Attribute (.Name x p1) "__init__" p2) (e :: es) [] pos) (tVeI X.K ta) := by
  refine ⟨fun pins s σ H Q I hw => ?_⟩
  refine PySem.W.methodCall_KW (ld_glob I hg hm ?_ hd) hc
  refine PySem.W.method_cls I.kIn hs (PySem.W.cls_value I.kIn hr vV (by decide +kernel) ?_)
  show wpAny _ _ (callWith pos (Value.builtin "ValueError.__init__") [] (backTo pos (starEach (e :: es) X.env)) []) _ _ _
  refine PyProof.Rows.callWith_method1 (thn (ha.run pos pins _ σ H _ (I.tok _) hw) fun us s1 hv => ?_) he hpl
  obtain ⟨vs, H1, I1, r1, a, C, ws, rfl, hl, T, ea, q⟩ := hv
  rcases r1 with _ | ⟨r0, rr⟩
  cases r0
  exact oinit_ok T I1 ea (by rw [← Paired.length rr, sizeLine_eq]; omega) fun s' J => ⟨.non, H1, J, rfl, q⟩
end
/-- bare things -/
def scalP : D → Option PyData
  | .p (.int i) => some (.int i)
  | .p (.str x) => some (.str x)
  | .p (.bool b) => some (.bool b)
  | _ => none
def scalL : List D → Option (List PyData)
  | [] => some []
  | d :: ds => match scalP d, scalL ds with
    | some p, some ps => some (p :: ps)
    | _, _ => none
theorem scalL_ok {K : Kh} {m : List Addr} {S : Sto} {H : Hp} : ∀ {ds : List D} {vs : List V} {ps : List PyData}, RDs K m S H ds vs → scalL ds = some ps → vs = ps.map sV
  | [], vs, ps, r, e => by
    cases r
    cases e
    rfl
  | d :: ds, vs, ps, r, e => by
    rcases r with _ | ⟨r1, r2⟩
    unfold scalL at e
    split at e
    · rename_i p ps' e1 e2
      cases e
      rw [List.map_cons, ← scalL_ok r2 e2]
      congr 1
      unfold scalP at e1
      split at e1
      · cases e1
        have r1 : RP _ _ _ _ _ := r1
        rw [RP] at r1; exact r1
      · cases e1
        have r1 : RP _ _ _ _ _ := r1
        rw [RP] at r1; exact r1
      · cases e1
        have r1 : RP _ _ _ _ _ := r1
        rw [RP] at r1; exact r1
      · cases e1
    · cases e
/-- what such a class's __init__ does: its fields are set, one behind another -/
def spInit (C : Addr) (n : Nat) (flds : List PyData → List (Str × PyData)) (ok : List PyData → Bool) : Sp := fun vs H Q _ => vs.length = n + 1 ∧ ∃ a ps, vs = .ref a :: ps.map sV ∧ ok ps = true ∧ H a = some (exo a C none) ∧
  ∀ d, H d = none → d ≠ a → Q .non (upd (upd H d (exd d (sVs (flds ps)))) a (exo a C (some d)))
section
variable {X : Cx} {e : Expr} {es : List Expr} {ta : TA} {p pos : Pos}
/-- C(e, ..), its __init__ keeping sp; what is made has no context -/
theorem pmk_oexN {x : Str} {C fI : Addr} {k : Nat} {fd : FuncData} {ps : List Str} {sp : Sp} (T : OexC X.K C) (iC : PySem.W.findIn X.K (.ref C) "__init__" = some (some (.ref fI))) (tI : PySem.W.typeIn X.K (.ref fI) = some (.type "function"))
    (F1 : FnOk X.prog X.w X.K X.mg X.base CX0 k fI fd ps sp) (hr : Room (k + 1) X.A) (hb : Binds X.K fd ps []) (hg : Gl X x) (hm : X.mg x = some (.ref C)) (ha : PA X (e :: es) ta)
    (hdb : (x == ("__debug__" : Str)) = false := by decide) (he : starEach (e :: es) X.env = (false, eval e X.env) :: starEach es X.env := by rfl) (hpl : (backTo pos (starEach es X.env)).any (·.1) = false := by rfl) :
    L2N.PMk X (.Call (.Name x p) (e :: es) [] pos) (tMkO C sp [] ta) := by
  intro pins s σ H Q I hw
  obtain ⟨nm, q, N, bs, bm, sn, sub, ab, col, dd, k0, k1, k2, k3, k5, hC, hbm⟩ := T.cls
  refine wpAny_Call_Name_kw (ld_glob I hg hm ?_ hdb)
  refine PySem.W.callWith_K (h₀ := X.base) I.ok.mod.kin T.kC (thn (ha.run pos pins s σ H _ I hw) fun us s1 hv => ?_) he hpl
  obtain ⟨vs, H1, I1, r1, hz, q1⟩ := hv
  refine ⟨I1.kIn, ?_⟩
  show wpAny _ _ (call (.ref C) us) _ _ _
  obtain ⟨hp, g, dr, tk, os⟩ := s1
  have up : hp.objs.size ≤ hp.objs.size + 1 := Nat.le_succ _
  have want := q1 (hp.objs.size + 1) (I1.hok.fresh up)
  rw [List.append_nil] at want
  have stay : ∀ b o, hp.get? b = some o → ((hp.push (PySem.W.kdv_tup us)).push (PySem.HandSPX.excO C hp.objs.size)).get? b = some o := fun b o e => Heap.get?_push_of_some _ (Heap.get?_push_of_some _ e)
  have here : ((hp.push (PySem.W.kdv_tup us)).push (PySem.HandSPX.excO C hp.objs.size)).get? (hp.objs.size + 1) = some (PySem.HandSPX.excO C hp.objs.size) := by heap_get
  have J2 := I1.laid (t' := tk) (a := hp.objs.size + 1) (o := exo (hp.objs.size + 1) C none) (h' := (hp.push (PySem.W.kdv_tup us)).push (PySem.HandSPX.excO C hp.objs.size)) stay up (exo_ok here)
  have rv : Vals (V.ref (hp.objs.size + 1) :: vs) (Value.ref (hp.objs.size + 1) :: us) := .cons rfl r1
  have len : (Value.ref (hp.objs.size + 1) :: us).length = ps.length := by rw [← F1.len _ _ _ _ want]; exact rv.length.symm
  have size : us.length ≤ sizeLine := by rw [← Paired.length r1, sizeLine_eq]; omega
  have bnd := hb ⟨(hp.push (PySem.W.kdv_tup us)).push (PySem.HandSPX.excO C hp.objs.size), g, dr, tk, os⟩ (Value.ref (hp.objs.size + 1) :: us) J2.kIn (by rw [List.append_nil]; exact len)
  rw [List.append_nil] at bnd
  refine wpAny_call (PySem.HandSPX.call_own F.excBase_ValueError (fun Y => PySem.HandSPX.refsVE_contains Y bm hbm) (I1.kIn _ _ hC) (PySem.W.looks_findIn I1.kIn iC) (fun self => PySem.W.bind_fn I1.kIn self tI) size
    (codeAny_mono (F1.run _ X.stack _ _ ⟨Value.ref (hp.objs.size + 1) :: us, []⟩ (Value.ref (hp.objs.size + 1) :: us) _ _ (fun _ _ _ => False) (hr.make C us []) (J2.env0.make C us []) bnd rv want) fun r s' hq => ?_))
  cases r with
  | error er => exact hq.elim
  | ok fl =>
    cases fl with
    | ret u =>
      obtain ⟨v, H2, os2, bare2, un2, hok2, ru, rfl, d, fs, ea, ed, hd1, q2⟩ := hq
      obtain ⟨h2, g2, d2, t2, os'⟩ := s'
      obtain ⟨t0, G, J, kG, ge, hoe, na⟩ := mk_end0 (d2 := d2) (t2 := t2) I1 up stay un2 hok2 os2 bare2 ea ed hd1
      exact ⟨ru, hp.objs.size + 1, _, _, ⟨G, g2, d2, t2, os'⟩, _, .ref C, some d, rfl, J, kG, ge, hoe, ⟨rfl, rfl, fun w e => by cases e; rfl⟩, rfl, rfl, na, rfl, bare2, raises_own T.exC T.tyC, q2⟩
    | next => exact hq.elim
    | brk => exact hq.elim
    | cont => exact hq.elim
/-- .. as a thing that is raised -/
def mMk (x : Str) (n : Nat) (flds : List PyData → List (Str × PyData)) (ok : List PyData → Bool) (ga : AD) : DL.Env → Sto → Rs Xc := fun ρ S => (ga ρ S).bind fun ds S1 => match scalL ds with
  | some ps => if ds.length = n ∧ ok ps = true ∧ (flds ps).isEmpty = false then .ok ⟨x, flds ps⟩ S1 else .st
  | none => .st
theorem dm_oex {x : Str} {C fI : Addr} {j k n : Nat} {fd : FuncData} {ps : List Str} {flds : List PyData → List (Str × PyData)} {ok : List PyData → Bool} {ga : AD} (T : OexC X.K C) (iC : PySem.W.findIn X.K (.ref C) "__init__" = some (some (.ref fI))) (tI : PySem.W.typeIn X.K (.ref fI) = some (.type "function"))
    (F1 : FnOk X.prog X.w X.K X.mg X.base CX0 k fI fd ps (spInit C n flds ok)) (hr : Room j X.A) (hk : k + 1 ≤ j) (hb : Binds X.K fd ps []) (hn2 : n ≤ 900) (hg : Gl X x) (hm : X.mg x = some (.ref C)) (ha : DA X (fun _ _ _ _ => False) (e :: es) ga)
    (hdb : (x == ("__debug__" : Str)) = false := by decide) (he : starEach (e :: es) X.env = (false, eval e X.env) :: starEach es X.env := by rfl) (hpl : (backTo pos (starEach es X.env)).any (·.1) = false := by rfl) :
    DM X (.Call (.Name x p) (e :: es) [] pos) (mMk x n flds ok ga) := by
  obtain ⟨t, q, i⟩ := ha
  refine ⟨_, pmk_oexN T iC tI F1 (hr.mono hk) hb hg hm q hdb he hpl, fun κ ρ S σ H m Q rl re h => ?_⟩
  refine i κ ρ S σ H m _ rl re ?_
  unfold mMk at h
  cases e1 : ga ρ S with
  | st => simp [e1] at h
  | ex _ _ => simp [e1] at h
  | ok ds S1 =>
    simp only [e1, Rs.bind_ok] at h
    intro vs H1 m1 x1 rl1 r1
    cases e2 : scalL ds with
    | none => simp [e2] at h
    | some qs =>
      simp only [e2] at h
      by_cases hok : ds.length = n ∧ ok qs = true ∧ (flds qs).isEmpty = false
      · rw [if_pos hok] at h
        obtain ⟨hl, hok, hne⟩ := hok
        have ev := scalL_ok r1 e2
        have vl : vs.length = n := by rw [← pairLen r1]; exact hl
        refine ⟨by omega, fun a na => ⟨by simp [vl], a, qs, by rw [List.append_nil, ev], hok, upd_same, fun d hd hda => ⟨rfl, d, sVs (flds qs), upd_same, ?_, ?_, ?_⟩⟩⟩
        · rw [upd_ne hda]; exact upd_same
        · rw [upd_ne hda] at hd; exact hd
        · have hd1 : H1 d = none := by rw [upd_ne hda] at hd; exact hd
          have eH : upd (del (upd (upd (upd H1 a (exo a C none)) d (exd d (sVs (flds qs)))) a (exo a C (some d))) a) d (.xd (sVs (flds qs))) = upd H1 d (.xd (sVs (flds qs))) := by
            funext b
            by_cases b1 : b = d
            · rw [b1, upd_same, upd_same]
            · rw [upd_ne b1, upd_ne b1]
              by_cases b2 : b = a
              · rw [b2, del_same, na]
              · rw [del_ne b2, upd_ne b2, upd_ne b1, upd_ne b2]
          rw [eH]
          exact h _ m1 (.ref C) (some d) (x1.trans (Nx.new rl1 hd1)) (rl1.new hd1) ⟨hm, .inr ⟨d, rfl, (fun z : flds qs = [] => by rw [z] at hne; cases hne), upd_same⟩⟩
      · rw [if_neg hok] at h
        exact h.elim
end
/-! texts cut -/
section
variable {X : Cx} {W : WX} {κ : Addr → Prop} {m : List Addr} {S : Sto} {H : Hp} {o e : Expr} {fo fe : ED} {pos apos : Pos}
theorem RDs_strs : ∀ l : List Str, RDs (KX X κ) m S H (l.map fun s => D.str s) (l.map V.str)
  | [] => .nil
  | _ :: l => .cons RD.str_ (RDs_strs l)
theorem RPs_strs {L : Addr → Prop} : ∀ l : List Str, RPs (KX X κ) H L (l.map PyData.str) (l.map V.str)
  | [] => by rw [List.map_nil, List.map_nil, RPs]
  | x :: l => by
    rw [List.map_cons, List.map_cons, RPs]
    exact ⟨_, _, rfl, by rw [RP], RPs_strs l⟩
def eSplO (fo fe : ED) : ED := fun ρ S => (fo ρ S).bind fun d S1 => match d with
  | .p (.str a) => (fe ρ S1).bind fun x S2 => (match x with
    | .p (.str b) => if (b.length == 0) = false ∧ a.length + 2 ≤ sizeLine then .ok (.ob S2.length) (S2 ++ [.lst ((Txt.split a b).map fun s => D.str s)]) else .st
    | _ => .st)
  | _ => .st
theorem de_splO (ho : DE X W o fo) (he : DE X W e fe) (hs : starEach [e] X.env = [(false, eval e X.env)] := by rfl) (hb : attributeBase o "split" X.env (eval o X.env) = eval o X.env := by rfl) (hl : (apos.endLine == pos.line) = true := by rfl) :
    DE X W (.Call (.Attribute o "split" apos) [e] [] pos) (eSplO fo fe) := by
  obtain ⟨t1, p1, i1⟩ := ho
  obtain ⟨t2, p2, i2⟩ := he
  refine ⟨_, pe_split p1 p2 hs hb hl, fun κ ρ S σ H m Q rl re h => ?_⟩
  refine i1.seq rl re h fun d S1 v H1 m1 x1 rl1 re1 r1 h1 => ?_
  split at h1
  · rename_i a
    refine ⟨⟨a, r1.str⟩, ?_⟩
    refine i2.seq rl1 re1 h1 fun d2 S2 v2 H2 m2 x2 rl2 re2 r2 h2 => ?_
    split at h2
    · rename_i b
      split at h2
      · rename_i hz
        exact ⟨a, b, r1.str, by rw [r2.str], hz.1, hz.2, fun z hz => h2.ok' (.push rl2 hz) (rl2.pushL hz (RDs_strs _)) (RD.push rl2)⟩
      · exact h2.elim
    · exact h2.elim
  · exact h1.elim
end
def cinB (K : PySem.W.Frag) (P0 : Addr) : Bool := match PySem.W.findCls K (.ref P0) (.type "type") "__init__" with
  | some (.val (.builtin n)) => decide (n = "ValueError.__init__")
  | _ => false
theorem cinB_ok {K : PySem.W.Frag} {P0 : Addr} (h : cinB K P0 = true) : PySem.W.findCls K (.ref P0) (.type "type") "__init__" = some (.val (.builtin "ValueError.__init__")) := by
  unfold cinB at h
  split at h
  · rename_i n e
    rw [e, of_decide_eq_true h]
  · cases h
theorem takes_none {X : Cx} : L2N.Takes X (fun _ _ _ _ => False) := fun _ _ z => by
  obtain ⟨_, _, _, _, _, _, _, _, _, _, _, _, _, _, _, _, z⟩ := z
  exact z.elim
/-! a text, none or one time -/
theorem op_mul_s {X : Cx} : OpR X (binaryOp .Mult) (fun x y H Q => ∃ (a : Str) (n : Int), x = .str a ∧ y = .int n ∧ ((n = 0 ∧ Q (.str Str.empty) H) ∨ (n = 1 ∧ Q (.str a) H))) := by
  intro pins s σ H x y v u Q I rx ry h
  obtain ⟨a, n, rfl, rfl, h⟩ := h
  obtain ⟨t, rfl⟩ := rx
  obtain ⟨t', rfl⟩ := ry
  rcases h with ⟨rfl, q⟩ | ⟨rfl, q⟩
  · exact P.mul_str_none (by decide) (by decide) ⟨.str Str.empty, H, I.tok _, ⟨_, rfl⟩, q⟩
  · exact P.mul_str (by decide) (fun _ h2 => by simp at h2) (fun _ h2 => by simp at h2) ⟨.str a, H, I, ⟨_, rfl⟩, q⟩
def gMulS : D → D → Sto → Rs D := fun x y S => match x, y with
  | .p (.str a), .p (.int n) => if n = 0 then .ok (.str Str.empty) S else if n = 1 then .ok (.str a) S else .st
  | _, _ => .st
theorem od_mulS {X : Cx} {W : WX} : OpD X W (binaryOp .Mult) gMulS := by
  refine ⟨_, op_mul_s, fun κ x y vx vy m S H σ Q rl rx ry h => ?_⟩
  unfold gMulS at h
  split at h
  · rename_i a n
    split at h
    · rename_i e
      exact ⟨a, n, rx.str, ry.int, .inl ⟨e, h.ok' .refl rl RD.str_⟩⟩
    · split at h
      · rename_i e
        exact ⟨a, n, rx.str, ry.int, .inr ⟨e, h.ok' .refl rl RD.str_⟩⟩
      · exact h.elim
  · exact h.elim
end DL

namespace DL
open PySem PySem.Spec PyProof.Rows L2
section
variable {X : Cx} {W : WX}
/-! ### repr of scalars; any, all, sum -/
theorem call_reprS : CallR X (.builtin "repr") (fun xs H Q => (xs = [.non] ∧ Q (.str "None") H) ∨ (∃ b : Bool, xs = [.bl b] ∧ Q (.str (if b then "True" else "False")) H) ∨ ∃ i : Int, xs = [.int i] ∧ i.natAbs.log2 < 1920 ∧ Q (.str (toString i)) H) := by
  intro pins s σ H xs us Q I r h
  rcases h with ⟨rfl, q⟩ | ⟨b, rfl, q⟩ | ⟨i, rfl, hz, q⟩
  · obtain ⟨u, rfl, e⟩ := vals1 r
    cases e
    exact PySem.P.repr_of_none ⟨.str _, H, I.tok _, ⟨_, rfl⟩, q⟩
  · obtain ⟨u, rfl, e⟩ := vals1 r
    cases e
    exact PySem.P.repr_of_bool ⟨.str _, H, I.tok _, ⟨_, rfl⟩, q⟩
  · obtain ⟨u, rfl, t, rfl⟩ := vals1 r
    exact PySem.P.repr_of_int hz ⟨.str _, H, I.tok _, ⟨_, rfl⟩, q⟩
def gRepr : FD := fun ds S => match ds with
  | [.p .none] => .ok (.str "None") S
  | [.p (.bool b)] => .ok (.str (if b then "True" else "False")) S
  | [.p (.int i)] => if i.natAbs.log2 < 1920 then .ok (.str (toString i)) S else .st
  | _ => .st
theorem cd_repr : CD X W (.builtin "repr") gRepr := by
  refine ⟨_, call_reprS, fun κ ds vs m S H σ Q rl rd h => ?_⟩
  unfold gRepr at h
  split at h
  · obtain ⟨v, rfl, r⟩ := RDs1 rd
    exact .inl ⟨by rw [r.non], h.ok' .refl rl RD.str_⟩
  · obtain ⟨v, rfl, r⟩ := RDs1 rd
    exact .inr (.inl ⟨_, by rw [r.bl], h.ok' .refl rl RD.str_⟩)
  · split at h
    · rename_i hl
      obtain ⟨v, rfl, r⟩ := RDs1 rd
      exact .inr (.inr ⟨_, by rw [r.int], hl, h.ok' .refl rl RD.str_⟩)
    · exact h.elim
  · exact h.elim
/-- bools of things -/
def bsD : List D → Option (List Bool)
  | [] => some []
  | .p (.bool b) :: l => (bsD l).map (b :: ·)
  | _ :: _ => none
def isD : List D → Option (List Int)
  | [] => some []
  | .p (.int b) :: l => (isD l).map (b :: ·)
  | _ :: _ => none
theorem bsD_ok {κ : Addr → Prop} {m : List Addr} {S : Sto} {H : Hp} : ∀ {ds : List D} {vs : List V} {bs : List Bool}, RDs (KX X κ) m S H ds vs → bsD ds = some bs → vs = bs.map V.bl
  | [], vs, bs, r, e => by cases r; cases e; rfl
  | .p (.bool b) :: l, vs, bs, r, e => by
    simp only [bsD, Option.map_eq_some_iff] at e
    obtain ⟨r', e, rfl⟩ := e
    cases r with
    | cons h1 h2 => rw [RD.bl h1, bsD_ok h2 e]; rfl
  | .p .none :: _, _, _, _, e => by cases e
  | .p (.int _) :: _, _, _, _, e => by cases e
  | .p (.str _) :: _, _, _, _, e => by cases e
  | .p (.list _) :: _, _, _, _, e => by cases e
  | .p (.tuple _) :: _, _, _, _, e => by cases e
  | .p (.dict _) :: _, _, _, _, e => by cases e
  | .ob _ :: _, _, _, _, e => by cases e
  | .scr _ :: _, _, _, _, e => by cases e
  | .xc _ _ _ :: _, _, _, _, e => by cases e
theorem isD_ok {κ : Addr → Prop} {m : List Addr} {S : Sto} {H : Hp} : ∀ {ds : List D} {vs : List V} {bs : List Int}, RDs (KX X κ) m S H ds vs → isD ds = some bs → vs = bs.map V.int
  | [], vs, bs, r, e => by cases r; cases e; rfl
  | .p (.int b) :: l, vs, bs, r, e => by
    simp only [isD, Option.map_eq_some_iff] at e
    obtain ⟨r', e, rfl⟩ := e
    cases r with
    | cons h1 h2 => rw [RD.int h1, isD_ok h2 e]; rfl
  | .p .none :: _, _, _, _, e => by cases e
  | .p (.bool _) :: _, _, _, _, e => by cases e
  | .p (.str _) :: _, _, _, _, e => by cases e
  | .p (.list _) :: _, _, _, _, e => by cases e
  | .p (.tuple _) :: _, _, _, _, e => by cases e
  | .p (.dict _) :: _, _, _, _, e => by cases e
  | .ob _ :: _, _, _, _, e => by cases e
  | .scr _ :: _, _, _, _, e => by cases e
  | .xc _ _ _ :: _, _, _, _, e => by cases e
theorem bsD_map (bs : List Bool) : bsD (bs.map fun b => D.p (.bool b)) = some bs := by
  induction bs with
  | nil => rfl
  | cons b l ih => simp [bsD, ih]
theorem isD_map (bs : List Int) : isD (bs.map fun b => D.p (.int b)) = some bs := by
  induction bs with
  | nil => rfl
  | cons b l ih => simp [isD, ih]
def gBools (f : List Bool → Bool) : FD := fun ds S => match ds with
  | [d] => (match lItems S d with
    | some l => (match bsD l with
      | some bs => .ok (.bl (f bs)) S
      | none => .st)
    | none => .st)
  | _ => .st
def gAny : FD := gBools fun bs => bs.any id
def gAll : FD := gBools fun bs => bs.all id
theorem cd_any (hc : X.calm = true) : CD X W (.builtin "any") gAny := by
  refine ⟨_, cr_any hc, fun κ ds vs m S H σ Q rl rd h => ?_⟩
  unfold gAny gBools at h
  split at h
  · split at h
    · rename_i l el
      split at h
      · rename_i bs eb
        obtain ⟨v, rfl, r⟩ := RDs1 rd
        obtain ⟨a, xs, rfl, h1, h2⟩ := r.items rl el
        rw [bsD_ok h2 eb] at h1
        exact ⟨a, bs, rfl, h1, h.ok' .refl rl RD.bl_⟩
      · exact h.elim
    · exact h.elim
  · exact h.elim
theorem cd_all (hc : X.calm = true) : CD X W (.builtin "all") gAll := by
  refine ⟨_, cr_all hc, fun κ ds vs m S H σ Q rl rd h => ?_⟩
  unfold gAll gBools at h
  split at h
  · split at h
    · rename_i l el
      split at h
      · rename_i bs eb
        obtain ⟨v, rfl, r⟩ := RDs1 rd
        obtain ⟨a, xs, rfl, h1, h2⟩ := r.items rl el
        rw [bsD_ok h2 eb] at h1
        exact ⟨a, bs, rfl, h1, h.ok' .refl rl RD.bl_⟩
      · exact h.elim
    · exact h.elim
  · exact h.elim
def gSum : FD := fun ds S => match ds with
  | [d] => (match lItems S d with
    | some l => (match isD l with
      | some bs => .ok (.int bs.sum) S
      | none => .st)
    | none => .st)
  | _ => .st
theorem cd_sum (hc : X.calm = true) : CD X W (.builtin "sum") gSum := by
  refine ⟨_, cr_sum hc, fun κ ds vs m S H σ Q rl rd h => ?_⟩
  unfold gSum at h
  split at h
  · split at h
    · rename_i l el
      split at h
      · rename_i bs eb
        obtain ⟨v, rfl, r⟩ := RDs1 rd
        obtain ⟨a, xs, rfl, h1, h2⟩ := r.items rl el
        rw [isD_ok h2 eb] at h1
        exact ⟨a, bs, rfl, h1, h.ok' .refl rl RD.int_⟩
      · exact h.elim
    · exact h.elim
  · exact h.elim
end
end DL

/-! what must hold ahead of a word, so that what is wanted holds behind it -/
namespace DL
open PySem PySem.Spec PyProof.Rows L2
def WE {α : Type} (r : Rs α) (Q : α → Sto → Prop) (E : Xc → Sto → Prop) : Prop := match r with
  | .st => False
  | .ok a S => Q a S
  | .ex x S => E x S
structure Wn where
  nx : Env → Sto → Prop
  rt : D → Sto → Prop
  bk : Env → Sto → Prop
  ct : Env → Sto → Prop
  ex : Xc → Env → Sto → Prop
def WS (o : Out) (P : Wn) : Prop := match o with
  | .st => False
  | .nx ρ S => P.nx ρ S
  | .rt d S => P.rt d S
  | .bk ρ S => P.bk ρ S
  | .ct ρ S => P.ct ρ S
  | .ex x ρ S => P.ex x ρ S
section
variable {α β : Type} {ρ : Env} {S S1 : Sto} {Q : α → Sto → Prop} {E : Xc → Sto → Prop} {P : Wn}
theorem WE_ok {a : α} : WE (.ok a S) Q E = Q a S := rfl
theorem WE_st : WE (.st : Rs α) Q E = False := rfl
theorem WE_ex {x : Xc} : WE (.ex x S : Rs α) Q E = E x S := rfl
theorem WE_bind {r : Rs β} {f : β → Sto → Rs α} : WE (Rs.bind r f) Q E = WE r (fun a S => WE (f a S) Q E) E := by cases r <;> rfl
theorem WE_ite {c : Prop} [Decidable c] {r s : Rs α} : WE (if c then r else s) Q E = if c then WE r Q E else WE s Q E := by split <;> rfl
theorem WE_no {r : Rs D} {Q : D → Sto → Prop} : WE (noEx r) Q E = WE r Q (fun _ _ => False) := by cases r <;> rfl
theorem WE_of {r : Rs α} {a : α} (e : r = .ok a S) (q : Q a S) : WE r Q E := by rw [e]; exact q
theorem WE_mono {r : Rs α} {Q' : α → Sto → Prop} {E' : Xc → Sto → Prop} (h : WE r Q' E') (hq : ∀ a S, Q' a S → Q a S) (he : ∀ x S, E' x S → E x S) : WE r Q E := by
  cases r with
  | st => exact h
  | ok a S => exact hq _ _ h
  | ex x S => exact he _ _ h
theorem WE_get {r : Rs D} {Q : D → Sto → Prop} (h : WE r Q (fun _ _ => False)) : ∃ d S, r = .ok d S ∧ Q d S := by
  cases r with
  | st => exact h.elim
  | ok a S => exact ⟨a, S, rfl, h⟩
  | ex x S => exact h.elim
theorem WS_nx : WS (.nx ρ S) P = P.nx ρ S := rfl
theorem WS_rt {d : D} : WS (.rt d S) P = P.rt d S := rfl
theorem WS_bk : WS (.bk ρ S) P = P.bk ρ S := rfl
theorem WS_ct : WS (.ct ρ S) P = P.ct ρ S := rfl
theorem WS_ex {x : Xc} : WS (.ex x ρ S) P = P.ex x ρ S := rfl
theorem WS_lift {r : Rs α} {k : α → Sto → Out} : WS (liftS ρ r k) P = WE r (fun a S => WS (k a S) P) (fun x S => P.ex x ρ S) := by cases r <;> rfl
theorem WS_seq {o : Out} {t : SD} : WS (seqO o t) P = WS o ⟨fun ρ S => WS (t ρ S) P, P.rt, P.bk, P.ct, P.ex⟩ := by cases o <;> rfl
theorem WS_ite {c : Prop} [Decidable c] {r s : Out} : WS (if c then r else s) P = if c then WS r P else WS s P := by split <;> rfl
theorem WS_of {o o' : Out} (e : o = o') (h : WS o' P) : WS o P := e ▸ h
theorem WS_mono {o : Out} {P' : Wn} (h : WS o P') (h1 : ∀ ρ S, P'.nx ρ S → P.nx ρ S) (h2 : ∀ ρ S, P'.rt ρ S → P.rt ρ S) (h3 : ∀ ρ S, P'.bk ρ S → P.bk ρ S) (h4 : ∀ ρ S, P'.ct ρ S → P.ct ρ S) (h5 : ∀ x ρ S, P'.ex x ρ S → P.ex x ρ S) : WS o P := by
  cases o with
  | st => exact h
  | nx ρ S => exact h1 _ _ h
  | rt d S => exact h2 _ _ h
  | bk ρ S => exact h3 _ _ h
  | ct ρ S => exact h4 _ _ h
  | ex x ρ S => exact h5 _ _ _ h
/-- a def -/
theorem WE_gB {N : List Str} {F : SD} {ds : List D} {Q : D → Sto → Prop} (h : WS (F (start0 N ds) S) ⟨fun _ S' => WE (pick S S' .non) Q E, fun d S' => WE (pick S S' d) Q E, fun _ _ => False, fun _ _ => False, fun x _ S' => WE (pickX S S' x) Q E⟩) : WE (gB N F ds S) Q E := by
  unfold gB
  cases e : F (start0 N ds) S with
  | st => rw [e] at h; exact h
  | nx ρ S => rw [e] at h; exact h
  | rt d S => rw [e] at h; exact h
  | bk ρ S => rw [e] at h; exact h.elim
  | ct ρ S => rw [e] at h; exact h.elim
  | ex x ρ S => rw [e] at h; exact h
theorem clS_nil {k : Nat} : ClS k [] := fun _ h => by cases h
theorem clS_set {k n : Nat} {S : Sto} {o : O} (h : ClS k S) (ho : ClO k o) : ClS k (S.set n o) := fun x hx => by
  rcases List.mem_or_eq_of_mem_set hx with h' | rfl
  · exact h x h'
  · exact ho
theorem clS_app {k : Nat} {S T : Sto} (h : ClS k S) (h2 : ClS k T) : ClS k (S ++ T) := fun x hx => by
  rcases List.mem_append.mp hx with h' | h'
  · exact h x h'
  · exact h2 x h'
theorem clS_one {k : Nat} {o : O} (h : ClO k o) : ClS k [o] := fun x hx => by
  rw [List.mem_singleton.mp hx]
  exact h
theorem clS_cons {k : Nat} {o : O} {T : Sto} (h : ClO k o) (h2 : ClS k T) : ClS k (o :: T) := fun x hx => by
  rcases List.mem_cons.mp hx with rfl | h'
  · exact h
  · exact h2 x h'
theorem clO_p {k : Nat} {l : List PyData} : ClO k (.lst (l.map .p)) := fun d hd => by
  obtain ⟨p, _, rfl⟩ := List.mem_map.mp hd
  trivial
theorem clO_nil {k : Nat} : ClO k (.lst []) := fun d hd => by cases hd
theorem clO_fz {k : Nat} {l : List PyData} : ClO k (.fz l) := trivial
theorem clD_mono {k k' : Nat} {d : D} (hk : k ≤ k') (q : ClD k d) : ClD k' d := by
  cases d with
  | ob n => exact Nat.lt_of_lt_of_le q hk
  | _ => trivial
theorem clS_mono {k k' : Nat} {S : Sto} (hk : k ≤ k') (h : ClS k S) : ClS k' S := by
  intro o ho
  have q := h o ho
  cases o with
  | lst l => exact fun d hd => clD_mono hk (q d hd)
  | fz l => trivial
  | dic l => exact fun d hd => clD_mono hk (q d hd)
theorem WE_pick {S2 : Sto} {d : PyData} {Q : D → Sto → Prop} (hl : S2.length = S.length) (hc : ClS 0 S2) (q : Q (.p d) S2) : WE (pick S S2 (.p d)) Q E := by
  unfold pick
  rw [show S2.take S.length = S2 by rw [← hl, List.take_length]]
  rw [if_pos ⟨by omega, clS_mono (Nat.zero_le _) hc, trivial⟩]
  exact q
theorem WE_pickT {S2 T : Sto} {d : PyData} {Q : D → Sto → Prop} (hl : S2.length = S.length) (hc : ClS 0 S2) (q : Q (.p d) S2) : WE (pick S (S2 ++ T) (.p d)) Q E := by
  unfold pick
  rw [take_left' hl]
  rw [if_pos ⟨by rw [List.length_append]; omega, clS_mono (Nat.zero_le _) hc, trivial⟩]
  exact q
/-- the store as it was, with what was added dropped -/
theorem WE_pickD {S2 : Sto} {d : PyData} {Q : D → Sto → Prop} (hl : S.length ≤ S2.length) (hc : ClS 0 (S2.take S.length)) (q : Q (.p d) (S2.take S.length)) : WE (pick S S2 (.p d)) Q E := by
  unfold pick
  rw [if_pos ⟨hl, clS_mono (Nat.zero_le _) hc, trivial⟩]
  exact q
/-- a loop -/
theorem WS_for {g : GD} {body : SD} {chk : Sto → Prop} (I : Nat → Env → Sto → Prop) : ∀ (ds : List D) (k : Nat) (ρ : Env) (S : Sto), I k ρ S →
    (∀ i d ρ S, ds[i]? = some d → I (k + i) ρ S → WE (g d ρ S) (fun ρ1 S1 => WS (body ρ1 S1) ⟨fun ρ S => chk S ∧ I (k + i + 1) ρ S, P.rt, P.nx, fun ρ S => chk S ∧ I (k + i + 1) ρ S, P.ex⟩) (fun _ _ => False)) →
    (∀ ρ S, I (k + ds.length) ρ S → P.nx ρ S) → WS (forL g body chk ds ρ S) P
  | [], k, ρ, S, h0, _, hn => hn ρ S h0
  | d :: ds, k, ρ, S, h0, hs, hn => by
    have q := hs 0 d ρ S rfl h0
    unfold forL
    cases e : g d ρ S with
    | st => rw [e] at q; exact q.elim
    | ex x S1 => rw [e] at q; exact q.elim
    | ok ρ1 S1 =>
      rw [e] at q
      have q : WS (body ρ1 S1) _ := q
      have ih := fun ρ2 S2 h => WS_for (body := body) (chk := chk) (g := g) I ds (k + 1) ρ2 S2 h (fun i d ρ S e h => by
        have := hs (i + 1) d ρ S e (by rw [show k + (i + 1) = k + 1 + i by omega]; exact h)
        rw [show k + (i + 1) = k + 1 + i by omega] at this
        exact this) (fun ρ S h => hn ρ S (by rw [List.length_cons, show k + (ds.length + 1) = k + 1 + ds.length by omega]; exact h))
      dsimp only
      cases e2 : body ρ1 S1 with
      | st => rw [e2] at q; exact q.elim
      | nx ρ2 S2 =>
        rw [e2] at q
        have q : chk S2 ∧ I (k + 0 + 1) ρ2 S2 := q
        simp only [q.1, if_true]
        exact ih ρ2 S2 q.2
      | ct ρ2 S2 =>
        rw [e2] at q
        have q : chk S2 ∧ I (k + 0 + 1) ρ2 S2 := q
        simp only [q.1, if_true]
        exact ih ρ2 S2 q.2
      | bk ρ2 S2 => rw [e2] at q; exact q
      | rt d2 S2 => rw [e2] at q; exact q
      | ex x ρ2 S2 => rw [e2] at q; exact q
/-- a list comprehension -/
theorem WE_lc {g : GD} {c : BD} {f : ED} {chk : Sto → Prop} {ρ0 : Env} {Q : D → Sto → Prop} (I : Nat → List PyData → Sto → Prop) : ∀ (ds : List D) (k : Nat) (acc : List PyData) (S : Sto), I k acc S →
    (∀ i d acc S, ds[i]? = some d → I (k + i) acc S → WE (g d ρ0 S) (fun ρ1 S1 => WE (c ρ1 S1) (fun b S2 => if b = true then WE (f ρ1 S2) (fun y S3 => ∃ p S4, restD y S3 = some (p, S4) ∧ acc.length < sizeLine ∧ chk S4 ∧ I (k + i + 1) (acc ++ [p]) S4) (fun _ _ => False) else chk S2 ∧ I (k + i + 1) acc S2) (fun _ _ => False)) (fun _ _ => False)) →
    (∀ acc S, I (k + ds.length) acc S → Q (.lst acc) S) → WE (okL (lcL g c f chk ρ0 ds acc S)) Q E
  | [], k, acc, S, h0, _, hn => hn acc S h0
  | d :: ds, k, acc, S, h0, hs, hn => by
    have q := hs 0 d acc S rfl h0
    have ih := fun acc2 S2 h => WE_lc (g := g) (c := c) (f := f) (chk := chk) (ρ0 := ρ0) I ds (k + 1) acc2 S2 h (fun i d ρ S e h => by
        have := hs (i + 1) d ρ S e (by rw [show k + (i + 1) = k + 1 + i by omega]; exact h)
        rw [show k + (i + 1) = k + 1 + i by omega] at this
        exact this) (fun ρ S h => hn ρ S (by rw [List.length_cons, show k + (ds.length + 1) = k + 1 + ds.length by omega]; exact h))
    unfold lcL
    cases e : g d ρ0 S with
    | st => rw [e] at q; exact q.elim
    | ex x S1 => rw [e] at q; exact q.elim
    | ok ρ1 S1 =>
      rw [e] at q
      have q : WE (c ρ1 S1) _ _ := q
      dsimp only
      cases e2 : c ρ1 S1 with
      | st => rw [e2] at q; exact q.elim
      | ex x S1 => rw [e2] at q; exact q.elim
      | ok b S2 =>
        rw [e2] at q
        cases b with
        | false =>
          have q : chk S2 ∧ I (k + 0 + 1) acc S2 := q
          simp only [q.1, if_true]
          exact ih acc S2 q.2
        | true =>
          have q : WE (f ρ1 S2) _ _ := q
          dsimp only
          cases e3 : f ρ1 S2 with
          | st => rw [e3] at q; exact q.elim
          | ex x S1 => rw [e3] at q; exact q.elim
          | ok y S3 =>
            rw [e3] at q
            obtain ⟨p, S4, q1, q2, q3, q4⟩ := q
            simp only [q1, q2, q3, and_self, if_true]
            exact ih _ _ q4
theorem WE_true {r : Rs D} (h : WE r (fun d _ => d = .bl true) (fun _ _ => False)) : ∃ S', r = .ok (.bl true) S' := by
  obtain ⟨d, S', e, rfl⟩ := WE_get h
  exact ⟨S', e⟩
/-- an item of a list, at a drawn place -/
theorem atI_in {α : Type} {l : List α} {v : Int} (h0 : 0 ≤ v) (h1 : v < l.length) : ∃ d, atI l v = some d ∧ d ∈ l := by
  obtain ⟨k, rfl⟩ : ∃ k : Nat, v = k := ⟨v.toNat, by omega⟩
  rw [atI_nat']
  have hk : k < l.length := by omega
  exact ⟨l[k], List.getElem?_eq_getElem hk, List.getElem_mem hk⟩
end
end DL
namespace DL
open PySem PySem.Spec PyProof.Rows L2
theorem bYes_ap {ρ : Env} {S : Sto} : bYes ρ S = .ok true S := rfl
theorem start0_eq {N : List Str} {ds : List D} : start0 N ds = ds.map some ++ List.replicate (N.length - ds.length) none := rfl
end DL
namespace DL
open PySem PySem.Spec PyProof.Rows L2
/-- a word in between -/
theorem WS_cut {s t : SD} {ρ : Env} {S : Sto} {P : Wn} (M : Env → Sto → Prop) (h1 : WS (s ρ S) ⟨M, P.rt, P.bk, P.ct, P.ex⟩) (h2 : ∀ ρ S, M ρ S → WS (t ρ S) P) : WS (sSeq s t ρ S) P := by
  rw [sSeq_ap, WS_seq]
  exact WS_mono h1 h2 (fun _ _ h => h) (fun _ _ h => h) (fun _ _ h => h) (fun _ _ _ h => h)
theorem clO_app {k : Nat} {l : List D} {d : D} (h : ClO k (.lst l)) (hd : ClD k d) : ClO k (.lst (l ++ [d])) := fun x hx => by
  rcases List.mem_append.mp hx with z | z
  · exact h x z
  · rw [List.mem_singleton.mp z]; exact hd
end DL
namespace DL
open PySem PySem.Spec PyProof.Rows L2
theorem gIsN_ap {neg : Bool} {a : PyData} {S : Sto} : gIsN neg (.p a) (.p .none) S = .ok (.bl (neg ^^ isNoneD a)) S := rfl
theorem isNoneD_int {i : Int} : isNoneD (.int i) = false := rfl
theorem isNoneD_none : isNoneD .none = true := rfl
end DL
namespace DL
open PySem PySem.Spec PyProof.Rows L2
/-- a def that hands plain data back: what is known of it and of the store at the end -/
theorem WE_def {N : List Str} {F : SD} {ds : List D} {S : Sto} {Q : D → Sto → Prop} {E : Xc → Sto → Prop} (R : D → Sto → Prop)
    (h : WS (F (start0 N ds) S) ⟨fun _ S' => R .non S', R, fun _ _ => False, fun _ _ => False, fun _ _ _ => False⟩)
    (hR : ∀ d S', R d S' → ∃ p S2 T, d = .p p ∧ S' = S2 ++ T ∧ S2.length = S.length ∧ ClS 0 S2 ∧ Q (.p p) S2) : WE (gB N F ds S) Q E := by
  refine WE_gB (WS_mono h (fun _ S' r => ?_) (fun d S' r => ?_) (fun _ _ z => z.elim) (fun _ _ z => z.elim) (fun _ _ _ z => z.elim))
  · obtain ⟨p, S2, T, e, rfl, h1, h2, q⟩ := hR _ _ r
    show WE (pick S (S2 ++ T) .non) Q E
    rw [e]
    exact WE_pickT h1 h2 q
  · obtain ⟨p, S2, T, rfl, rfl, h1, h2, q⟩ := hR _ _ r
    exact WE_pickT h1 h2 q
end DL
namespace DL
open PySem PySem.Spec PyProof.Rows L2
def andR (x : D) (r : Rs D) (S : Sto) : Rs D := match x with
  | .p (.bool b) => if b = true then r else .ok (.bl false) S
  | _ => .st
def orR (x : D) (r : Rs D) (S : Sto) : Rs D := match x with
  | .p (.bool b) => if b = true then .ok (.bl true) S else r
  | _ => .st
def notR (x : D) (S : Sto) : Rs D := match x with
  | .p (.bool b) => .ok (.bl (!b)) S
  | _ => .st
theorem eAnd_wp {f g : ED} {ρ : Env} {S : Sto} : eAnd f g ρ S = (f ρ S).bind fun x S1 => andR x (g ρ S1) S1 := by
  unfold eAnd
  congr 1
  funext x S1
  cases x with
  | p d => cases d with
    | bool b => cases b <;> rfl
    | _ => rfl
  | ob _ => rfl
  | scr _ => rfl
  | xc _ _ _ => rfl
theorem eOr_wp {f g : ED} {ρ : Env} {S : Sto} : eOr f g ρ S = (f ρ S).bind fun x S1 => orR x (g ρ S1) S1 := by
  unfold eOr
  congr 1
  funext x S1
  cases x with
  | p d => cases d with
    | bool b => cases b <;> rfl
    | _ => rfl
  | ob _ => rfl
  | scr _ => rfl
  | xc _ _ _ => rfl
theorem eNot_wp {f : ED} {ρ : Env} {S : Sto} : eNot f ρ S = (f ρ S).bind fun x S1 => notR x S1 := by
  unfold eNot
  congr 1
theorem andR_bl {b : Bool} {r : Rs D} {S : Sto} : andR (.p (.bool b)) r S = if b = true then r else .ok (.bl false) S := rfl
theorem orR_bl {b : Bool} {r : Rs D} {S : Sto} : orR (.p (.bool b)) r S = if b = true then .ok (.bl true) S else r := rfl
theorem notR_bl {b : Bool} {S : Sto} : notR (.p (.bool b)) S = .ok (.bl (!b)) S := rfl
theorem gAny_lst {bs : List Bool} {S : Sto} : gAny [.p (.list (bs.map .bool))] S = .ok (.bl (bs.any id)) S := by
  unfold gAny gBools
  have e : lItems S (.p (.list (bs.map .bool))) = some (bs.map fun b => D.p (.bool b)) := by
    show some ((bs.map PyData.bool).map D.p) = _
    rw [List.map_map]; rfl
  simp only [e, bsD_map]
theorem gAll_lst {bs : List Bool} {S : Sto} : gAll [.p (.list (bs.map .bool))] S = .ok (.bl (bs.all id)) S := by
  unfold gAll gBools
  have e : lItems S (.p (.list (bs.map .bool))) = some (bs.map fun b => D.p (.bool b)) := by
    show some ((bs.map PyData.bool).map D.p) = _
    rw [List.map_map]; rfl
  simp only [e, bsD_map]
theorem gSum_lst {bs : List Int} {S : Sto} : gSum [.p (.list (bs.map .int))] S = .ok (.int bs.sum) S := by
  unfold gSum
  have e : lItems S (.p (.list (bs.map .int))) = some (bs.map fun b => D.p (.int b)) := by
    show some ((bs.map PyData.int).map D.p) = _
    rw [List.map_map]; rfl
  simp only [e, isD_map]
theorem chkOf_p {d : PyData} {l : List D} {S : Sto} : chkOf (.p d) l S = True := rfl
theorem lItems_lst {l : List PyData} {S : Sto} : lItems S (.p (.list l)) = some (l.map .p) := rfl
end DL

namespace DL
open PySem PySem.Spec PyProof.Rows L2
section
variable {X : Cx} {W : WX}
/-! ### in a tuple of data -/
def rInTp (neg : Bool) (K : PySem.W.Frag) : R2 := fun v w H Q => ∃ d l, Dp K H v d ∧ Dp K H w (.tuple l) ∧ (SeqAt.shaped d = true ∧ SeqAt.shaped (.tuple l) = true) ∧ Q (.bl (neg ^^ l.any fun z => PyData.eqv z d)) H
theorem op_inTp (room : X.A.units + 65 < cLine) : OpR X (compareOp .In) (rInTp false X.K) := by
  intro pins s σ H v w pv pw Q I rv rw' ⟨d, l, dv, dl, ⟨sd, sl⟩, q⟩
  obtain ⟨_, r1⟩ := Dp.reads I d v pv dv rv
  obtain ⟨_, r2⟩ := Dp.reads I _ w pw dl rw'
  refine SeqAt.in_tuple_reads r2 r1 (SeqAt.canLay_of_shaped sl) (SeqAt.canLay_of_shaped sd) (room_in_shaped sd room) ⟨.bl _, H, I, rfl, ?_⟩
  simpa using q
theorem op_notInTp (room : X.A.units + 65 < cLine) : OpR X (compareOp .NotIn) (rInTp true X.K) := by
  intro pins s σ H v w pv pw Q I rv rw' ⟨d, l, dv, dl, ⟨sd, sl⟩, q⟩
  obtain ⟨_, r1⟩ := Dp.reads I d v pv dv rv
  obtain ⟨_, r2⟩ := Dp.reads I _ w pw dl rw'
  refine SeqAt.notIn_tuple_reads r2 r1 (SeqAt.canLay_of_shaped sl) (SeqAt.canLay_of_shaped sd) (room_in_shaped sd room) ⟨.bl _, H, I, rfl, ?_⟩
  simpa using q
def gInT (neg : Bool) : D → D → Sto → Rs D := fun x y S => match y with
  | .p (.tuple l) => (match pNow S x with
    | some d => if SeqAt.shaped d = true ∧ SeqAt.shaped (.tuple l) = true then .ok (.bl (neg ^^ l.any fun z => PyData.eqv z d)) S else .st
    | none => .st)
  | y => gIn neg x y S
theorem od_inT (hu : X.A.units + 65 < cLine) : OpD X W (compareOp .In) (gInT false) := by
  obtain ⟨r, hr, h0⟩ := od_in (X := X) (W := W) hu
  refine ⟨_, OpR.or hr (op_inTp hu), fun κ x y vx vy m S H σ Q rl rx ry h => ?_⟩
  unfold gInT at h
  split at h
  · split at h
    · split at h
      · rename_i e hs
        exact .inr ⟨_, _, rx.now rl e, RP.dp _ _ ry, hs, h.ok' .refl rl RD.bl_⟩
      · exact h.elim
    · exact h.elim
  · exact .inl (h0 κ x y vx vy m S H σ Q rl rx ry h)
theorem od_notinT (hu : X.A.units + 65 < cLine) : OpD X W (compareOp .NotIn) (gInT true) := by
  obtain ⟨r, hr, h0⟩ := od_notin (X := X) (W := W) hu
  refine ⟨_, OpR.or hr (op_notInTp hu), fun κ x y vx vy m S H σ Q rl rx ry h => ?_⟩
  unfold gInT at h
  split at h
  · split at h
    · split at h
      · rename_i e hs
        exact .inr ⟨_, _, rx.now rl e, RP.dp _ _ ry, hs, h.ok' .refl rl RD.bl_⟩
      · exact h.elim
    · exact h.elim
  · exact .inl (h0 κ x y vx vy m S H σ Q rl rx ry h)
theorem gInT_tup {neg : Bool} {d : PyData} {l : List PyData} {S : Sto} (hd : SeqAt.shaped d = true) (hl : SeqAt.shaped (.tuple l) = true) : gInT neg (.p d) (.p (.tuple l)) S = .ok (.bl (neg ^^ l.any fun z => PyData.eqv z d)) S := by
  show (if _ then _ else _) = _
  rw [if_pos ⟨hd, hl⟩]
end
end DL
namespace DL
open PySem PySem.Spec PyProof.Rows L2
section
variable {X : Cx} {W : WX}
/-- two lists in one that will change -/
def gAddO : D → D → Sto → Rs D := fun x y S => match vList S x, vList S y with
  | some a, some b => if a.length + b.length ≤ sizeLine then .ok (.ob S.length) (S ++ [.lst ((a ++ b).map .p)]) else .st
  | _, _ => .st
theorem od_addO : OpD X W (binaryOp .Add) gAddO := by
  refine ⟨_, op_cat, fun κ x y vx vy m S H σ Q rl rx ry h => ?_⟩
  unfold gAddO at h
  split at h
  · rename_i a b ea eb
    split at h
    · rename_i hl
      obtain ⟨p, xs, rfl, hx, rx⟩ := rx.vlist rl ea
      obtain ⟨q, ys, rfl, hy, ry⟩ := ry.vlist rl eb
      exact ⟨p, q, xs, ys, rfl, rfl, hx, hy, by rw [← RPs_len rx, ← RPs_len ry]; exact hl, fun z hz => h.ok' (.push rl hz) (rl.pushL hz (RDs_p.mpr (RPs_app rx ry))) (RD.push rl)⟩
    · exact h.elim
  · exact h.elim
end
end DL

namespace My
open PySem PySem.Spec PyProof.Rows L2 DL
theorem units65 {k : Nat} {A : Around} (r : Room k A) : A.units + 65 < cLine := by have := r.un; omega
def topS (i : Nat) : Stmt := PySem.Challenge.pw_surelyread_k20_allowed_regions.main.body.getD i (.Pass ⟨0, 0, 0, 0⟩)
def subS (st : Stmt) (k : Nat) : Stmt := match st with
  | .ClassDef (body := b) .. => b.getD k (.Pass ⟨0, 0, 0, 0⟩)
  | _ => .Pass ⟨0, 0, 0, 0⟩
abbrev s_is_strip : Stmt := topS 1
abbrev NN_is_strip : List Str := ["part"]
theorem sc_is_strip : FnScope NN_is_strip ["part"] (defScope s_is_strip) := ⟨rfl, rfl, rfl, by decide +kernel, rfl, by decide +kernel, by decide +kernel⟩
/-- is_strip -/
noncomputable def B_is_strip : SD := sRetR (eBin (gInT false) (eBin gIx (eVar 0) (eC (.int 0))) (eTup (aCons (eC (.str "across")) (aCons (eC (.str "down")) (aNil)))))
theorem d_is_strip {P : Program} {w : World} {K : PySem.W.Frag} {mg : Str → Option Value} {base : Heap} {j : Nat} {cdv : Value} {A : Around} {outer : List PySem.Env} {s : Shared} {H : Hp} {E : XK} {f : Addr} (hr : Room j (A.deeper (envOfC "is_strip" (defScope s_is_strip) s.heap.objs.size f cdv))) :
    DSs (cxOf CX0 P w K mg base NN_is_strip "is_strip" (defScope s_is_strip) f cdv A outer s H E).nox (fun _ _ _ _ => False) (defBody s_is_strip) (B_is_strip) := by
  have hu := hr.units
  have hu1 := units65 hr
  exact dss_one (ds_retR (de_cmp (od_inT hu1) (de_ix (dv 0) (de_int) (fun _ _ => rfl)) (de_tup (da_cons (de_str) (da_cons (de_str) (da_nil)))) (by rfl)))
abbrev s_allowed : Stmt := topS 3
abbrev NN_allowed : List Str := ["parts", "region", "wishes", "fixed", "forbidden", "other"]
theorem sc_allowed : FnScope NN_allowed ["parts", "region", "wishes"] (defScope s_allowed) := ⟨rfl, rfl, rfl, by decide +kernel, rfl, by decide +kernel, by decide +kernel⟩
/-- allowed -/
noncomputable def B_allowed (g_is_strip : FD) (g_overlap : FD) : SD := sSeq (sAsg (eVar 2) (gTupD 2 (gsCons (gNm 3) (gsCons (gNm 4) (gsNil))))) (sSeq (sIf (asB (eBin (gInT false) (eVar 1) (eVar 4))) (sRetR (eC (.bool false))) (sNil)) (sSeq (sIf (bTru (eCall 1 g_is_strip (aCons (eBin gIx (eVar 0) (eBin gIx (eVar 1) (eC (.int 0)))) (aNil)))) (sRetR (eC (.bool true))) (sNil)) (sRetR (eNot (eB gAny (aCons (eLc (iTpl (eVar 3)) (gNm 5) (bYes) (eAnd (eBin (gEq true) (eVar 5) (eVar 1)) (eCall 2 g_overlap (aCons (eVar 1) (aCons (eVar 5) (aNil))))) [5]) (aNil)))))))
theorem d_allowed {P : Program} {w : World} {K : PySem.W.Frag} {mg : Str → Option Value} {base : Heap} {j : Nat} {g_is_strip : FD} {k_is_strip : Nat} (F_is_strip : FnD P w K mg base k_is_strip "is_strip" 1 g_is_strip) (hk_is_strip : k_is_strip ≤ j) {g_overlap : FD} {k_overlap : Nat} (F_overlap : FnD P w K mg base k_overlap "overlap" 2 g_overlap) (hk_overlap : k_overlap ≤ j) (m_any : mg "any" = none) {cdv : Value} {A : Around} {outer : List PySem.Env} {s : Shared} {H : Hp} {E : XK} {f : Addr} (hr : Room j (A.deeper (envOfC "allowed" (defScope s_allowed) s.heap.objs.size f cdv))) :
    DSs (cxOf CX0 P w K mg base NN_allowed "allowed" (defScope s_allowed) f cdv A outer s H E).nox (fun _ _ _ _ => False) (defBody s_allowed) (B_allowed g_is_strip g_overlap) := by
  have hu := hr.units
  have hu1 := units65 hr
  exact dss_cons (ds_asg (dv 2) (dg_tup rfl (dgs_cons (dgn 3 sc_allowed.nd) (dgs_cons (dgn 4 sc_allowed.nd) (dgs_nil))))) (dss_cons (ds_if (dt_cmp (od_inT hu1) (dv 1) (dv 4) (by rfl)) (dss_one (ds_retR (de_bl))) (dss_nil)) (dss_cons (ds_if (dt_truth (de_call F_is_strip hr hk_is_strip rfl (da_cons (de_ix (dv 0) (de_ix (dv 1) (de_int) (fun _ _ => rfl)) (fun _ _ => rfl)) (da_nil)))) (dss_one (ds_retR (de_bl))) (dss_nil)) (dss_one (ds_retR (de_not (de_callB (cd_any rfl) rfl m_any (by decide +kernel) (da_cons (de_lc (own := [("other", 5)]) rfl sc_allowed.nd (di_tup (dv 3)) (blkOk_by (N := NN_allowed) (sc := defScope s_allowed) (by decide +kernel)) (fun _ _ _ _ _ => dgw 5 sc_allowed.nd (by decide)) (fun _ _ _ _ _ => dts_nil) (fun _ _ _ _ _ => de_and (de_cmp (od_ne hu) (dv 5) (dv 1) (nomark _)) (de_one (de_call F_overlap hr hk_overlap rfl (da_cons (dv 1) (da_cons (dv 5) (da_nil))))))) (da_nil))))))))
abbrev s_overlap : Stmt := topS 4
abbrev NN_overlap : List Str := ["one", "other"]
theorem sc_overlap : FnScope NN_overlap ["one", "other"] (defScope s_overlap) := ⟨rfl, rfl, rfl, by decide +kernel, rfl, by decide +kernel, by decide +kernel⟩
/-- overlap -/
noncomputable def B_overlap : SD := sRetR (eAnd (eBin gLt (eBin gIx (eVar 0) (eC (.int 1))) (eBin gAdd (eBin gIx (eVar 1) (eC (.int 1))) (eBin gIx (eVar 1) (eC (.int 3))))) (eAnd (eBin gLt (eBin gIx (eVar 1) (eC (.int 1))) (eBin gAdd (eBin gIx (eVar 0) (eC (.int 1))) (eBin gIx (eVar 0) (eC (.int 3))))) (eAnd (eBin gLt (eBin gIx (eVar 0) (eC (.int 2))) (eBin gAdd (eBin gIx (eVar 1) (eC (.int 2))) (eBin gIx (eVar 1) (eC (.int 4))))) (eBin gLt (eBin gIx (eVar 1) (eC (.int 2))) (eBin gAdd (eBin gIx (eVar 0) (eC (.int 2))) (eBin gIx (eVar 0) (eC (.int 4))))))))
theorem d_overlap {P : Program} {w : World} {K : PySem.W.Frag} {mg : Str → Option Value} {base : Heap} {j : Nat} {cdv : Value} {A : Around} {outer : List PySem.Env} {s : Shared} {H : Hp} {E : XK} {f : Addr} (hr : Room j (A.deeper (envOfC "overlap" (defScope s_overlap) s.heap.objs.size f cdv))) :
    DSs (cxOf CX0 P w K mg base NN_overlap "overlap" (defScope s_overlap) f cdv A outer s H E).nox (fun _ _ _ _ => False) (defBody s_overlap) (B_overlap) := by
  have hu := hr.units
  have hu1 := units65 hr
  exact dss_one (ds_retR (de_and (de_cmp od_lt (de_ix (dv 0) (de_int) (fun _ _ => rfl)) (de_bin od_add (de_ix (dv 1) (de_int) (fun _ _ => rfl)) (de_ix (dv 1) (de_int) (fun _ _ => rfl))) (nomark _)) (de_and (de_cmp od_lt (de_ix (dv 1) (de_int) (fun _ _ => rfl)) (de_bin od_add (de_ix (dv 0) (de_int) (fun _ _ => rfl)) (de_ix (dv 0) (de_int) (fun _ _ => rfl))) (nomark _)) (de_and (de_cmp od_lt (de_ix (dv 0) (de_int) (fun _ _ => rfl)) (de_bin od_add (de_ix (dv 1) (de_int) (fun _ _ => rfl)) (de_ix (dv 1) (de_int) (fun _ _ => rfl))) (nomark _)) (de_one (de_cmp od_lt (de_ix (dv 1) (de_int) (fun _ _ => rfl)) (de_bin od_add (de_ix (dv 0) (de_int) (fun _ _ => rfl)) (de_ix (dv 0) (de_int) (fun _ _ => rfl))) (nomark _)))))))
abbrev s_law_cell : Stmt := topS 6
abbrev NN_law_cell : List Str := ["script", "k"]
theorem sc_law_cell : FnScope NN_law_cell ["script", "k"] (defScope s_law_cell) := ⟨rfl, rfl, rfl, by decide +kernel, rfl, by decide +kernel, by decide +kernel⟩
/-- _law_cell -/
noncomputable def B_law_cell : SD := sSeq (sIf (asB (eBin gLt (eVar 1) (eB gLen (aCons (eVar 0) (aNil))))) (sRetR (eBin gIx (eVar 0) (eVar 1))) (sNil)) (sRetR (eC (.int 0)))
theorem d_law_cell {P : Program} {w : World} {K : PySem.W.Frag} {mg : Str → Option Value} {base : Heap} {j : Nat} (m_len : mg "len" = none) {cdv : Value} {A : Around} {outer : List PySem.Env} {s : Shared} {H : Hp} {E : XK} {f : Addr} (hr : Room j (A.deeper (envOfC "_law_cell" (defScope s_law_cell) s.heap.objs.size f cdv))) :
    DSs (cxOf CX0 P w K mg base NN_law_cell "_law_cell" (defScope s_law_cell) f cdv A outer s H E).nox (fun _ _ _ _ => False) (defBody s_law_cell) (B_law_cell) := by
  have hu := hr.units
  have hu1 := units65 hr
  exact dss_cons (ds_if (dt_cmp od_lt (dv 1) (de_callB cd_len rfl m_len boot_len (da_cons (dv 0) (da_nil))) (nomark _)) (dss_one (ds_retR (de_ix (dv 0) (dv 1) (fun _ _ => rfl)))) (dss_nil)) (dss_one (ds_retR (de_int)))
abbrev s_law_digits : Stmt := topS 7
abbrev NN_law_digits : List Str := ["script", "first", "last", "digits", "k", "cell", "turn", "seed"]
theorem sc_law_digits : FnScope NN_law_digits ["script", "first", "last"] (defScope s_law_digits) := ⟨rfl, rfl, rfl, by decide +kernel, rfl, by decide +kernel, by decide +kernel⟩
/-- _law_digits -/
noncomputable def B_law_digits (g_law_cell : FD) : SD := sSeq (sSet 3 (eLstO (aNil))) (sSeq (sFor (iRgB (aCons (eVar 1) (aCons (eVar 2) (aNil)))) (gNm 4) (sSeq (sSet 5 (eCall 2 g_law_cell (aCons (eVar 0) (aCons (eVar 4) (aNil))))) (sSeq (sIf (asB (eBin gLt (eVar 5) (eC (.int 0)))) (sSet 5 (eBin gSub (eC (.int 1)) (eBin gMul (eC (.int 2)) (eVar 5)))) (sNil)) (sIf (asB (eBin gGe (eVar 5) (eBin gPow (eC (.int 10)) (eC (.int 18))))) (sFor (iRgA (aCons (eC (.int 60)) (aNil))) (gNm 6) (sIf (asB (eBin gGt (eVar 5) (eC (.int 0)))) (sSeq (sExpr (eMth gApp (eVar 3) (aCons (eBin gMod (eB gToInt (aCons (eVar 5) (aNil))) (eC (.int 1000))) (aNil)))) (sSet 5 (eBin gFdv (eVar 5) (eC (.int 1000))))) (sNil))) (sSeq (sSet 7 (eBin gMod (eB gToInt (aCons (eBin gAdd (eBin gAdd (eBin gMul (eVar 5) (eC (.int 48271))) (eBin gMul (eVar 4) (eC (.int 69621)))) (eC (.int 11))) (aNil))) (eC (.int 2147483647)))) (sFor (iRgA (aCons (eC (.int 12)) (aNil))) (gNm 6) (sSeq (sSet 7 (eBin gMod (eB gToInt (aCons (eBin gAdd (eBin gAdd (eBin gMul (eVar 7) (eC (.int 16807))) (eBin gMul (eC (.int 7)) (eVar 6))) (eC (.int 1))) (aNil))) (eC (.int 2147483647)))) (sExpr (eMth gApp (eVar 3) (aCons (eBin gMod (eB gToInt (aCons (eBin gFdv (eVar 7) (eC (.int 997))) (aNil))) (eC (.int 1000))) (aNil))))))))))) (sRetR (eVar 3)))
theorem d_law_digits {P : Program} {w : World} {K : PySem.W.Frag} {mg : Str → Option Value} {base : Heap} {j : Nat} {g_law_cell : FD} {k_law_cell : Nat} (F_law_cell : FnD P w K mg base k_law_cell "_law_cell" 2 g_law_cell) (hk_law_cell : k_law_cell ≤ j) (m_int : mg "int" = none) (m_range : mg "range" = none) {cdv : Value} {A : Around} {outer : List PySem.Env} {s : Shared} {H : Hp} {E : XK} {f : Addr} (hr : Room j (A.deeper (envOfC "_law_digits" (defScope s_law_digits) s.heap.objs.size f cdv))) :
    DSs (cxOf CX0 P w K mg base NN_law_digits "_law_digits" (defScope s_law_digits) f cdv A outer s H E).nox (fun _ _ _ _ => False) (defBody s_law_digits) (B_law_digits g_law_cell) := by
  have hu := hr.units
  have hu1 := units65 hr
  exact dss_cons (dset 3 sc_law_digits.nd (de_lstO (da_nil))) (dss_cons (ds_for PassesOwn.never rfl (di_range2 rfl m_range (da_cons (dv 1) (da_cons (dv 2) (da_nil)))) (dgn 4 sc_law_digits.nd) (dss_cons (dset 5 sc_law_digits.nd (de_call F_law_cell hr hk_law_cell rfl (da_cons (dv 0) (da_cons (dv 4) (da_nil))))) (dss_cons (ds_if (dt_cmp od_lt (dv 5) (de_int) (nomark _)) (dss_one (dset 5 sc_law_digits.nd (de_bin od_sub (de_int) (de_bin od_mul (de_int) (dv 5))))) (dss_nil)) (dss_one (ds_if (dt_cmp od_ge (dv 5) (de_bin od_pow (de_int) (de_int)) (nomark _)) (dss_one (ds_for PassesOwn.never rfl (di_range1 rfl m_range (da_cons (de_int) (da_nil))) (dgn 6 sc_law_digits.nd) (dss_one (ds_if (dt_cmp od_gt (dv 5) (de_int) (nomark _)) (dss_cons (ds_expr (de_mth md_append PySem.F.slot_list_append PySem.F.type_list_append (dv 3) (da_cons (de_bin od_mod (de_callT cd_int rfl m_int (by decide +kernel) (da_cons (dv 5) (da_nil))) (de_int)) (da_nil)))) (dss_one (dset 5 sc_law_digits.nd (de_bin od_fdv (dv 5) (de_int))))) (dss_nil))))) (dss_cons (dset 7 sc_law_digits.nd (de_bin od_mod (de_callT cd_int rfl m_int (by decide +kernel) (da_cons (de_bin od_add (de_bin od_add (de_bin od_mul (dv 5) (de_int)) (de_bin od_mul (dv 4) (de_int))) (de_int)) (da_nil))) (de_int))) (dss_one (ds_for PassesOwn.never rfl (di_range1 rfl m_range (da_cons (de_int) (da_nil))) (dgn 6 sc_law_digits.nd) (dss_cons (dset 7 sc_law_digits.nd (de_bin od_mod (de_callT cd_int rfl m_int (by decide +kernel) (da_cons (de_bin od_add (de_bin od_add (de_bin od_mul (dv 7) (de_int)) (de_bin od_mul (de_int) (dv 6))) (de_int)) (da_nil))) (de_int))) (dss_one (ds_expr (de_mth md_append PySem.F.slot_list_append PySem.F.type_list_append (dv 3) (da_cons (de_bin od_mod (de_callT cd_int rfl m_int (by decide +kernel) (da_cons (de_bin od_fdv (dv 7) (de_int)) (da_nil))) (de_int)) (da_nil)))))))))))))) (dss_one (ds_retR (dv 3))))
abbrev s_law_draw : Stmt := topS 8
abbrev NN_law_draw : List Str := ["box", "many", "at"]
theorem sc_law_draw : FnScope NN_law_draw ["box", "many"] (defScope s_law_draw) := ⟨rfl, rfl, rfl, by decide +kernel, rfl, by decide +kernel, by decide +kernel⟩
/-- _law_draw -/
noncomputable def B_law_draw : SD := sSeq (sSet 2 (eBin gIx (eVar 0) (eC (.int 1)))) (sSeq (sAsg (eBin gAdd (eVar 2) (eC (.int 1))) (gSetL (eVar 0) (eC (.int 1)))) (sSeq (sIf (asB (eBin gLt (eVar 2) (eB gLen (aCons (eBin gIx (eVar 0) (eC (.int 0))) (aNil))))) (sRetR (eBin gMod (eB gToInt (aCons (eBin gIx (eBin gIx (eVar 0) (eC (.int 0))) (eVar 2)) (aNil))) (eVar 1))) (sNil)) (sRetR (eBin gMod (eB gToInt (aCons (eBin gAdd (eBin gMul (eVar 2) (eC (.int 7))) (eC (.int 3))) (aNil))) (eVar 1)))))
theorem d_law_draw {P : Program} {w : World} {K : PySem.W.Frag} {mg : Str → Option Value} {base : Heap} {j : Nat} (m_int : mg "int" = none) (m_len : mg "len" = none) {cdv : Value} {A : Around} {outer : List PySem.Env} {s : Shared} {H : Hp} {E : XK} {f : Addr} (hr : Room j (A.deeper (envOfC "_law_draw" (defScope s_law_draw) s.heap.objs.size f cdv))) :
    DSs (cxOf CX0 P w K mg base NN_law_draw "_law_draw" (defScope s_law_draw) f cdv A outer s H E).nox (fun _ _ _ _ => False) (defBody s_law_draw) (B_law_draw) := by
  have hu := hr.units
  have hu1 := units65 hr
  exact dss_cons (dset 2 sc_law_draw.nd (de_ix (dv 0) (de_int) (fun _ _ => rfl))) (dss_cons (ds_asg (de_bin od_add (dv 2) (de_int)) (dg_setL (dv 0) (de_int))) (dss_cons (ds_if (dt_cmp od_lt (dv 2) (de_callB cd_len rfl m_len boot_len (da_cons (de_ix (dv 0) (de_int) (fun _ _ => rfl)) (da_nil))) (nomark _)) (dss_one (ds_retR (de_bin od_mod (de_callT cd_int rfl m_int (by decide +kernel) (da_cons (de_ix (de_ix (dv 0) (de_int) (fun _ _ => rfl)) (dv 2) (fun _ _ => rfl)) (da_nil))) (dv 1)))) (dss_nil)) (dss_one (ds_retR (de_bin od_mod (de_callT cd_int rfl m_int (by decide +kernel) (da_cons (de_bin od_add (de_bin od_mul (dv 2) (de_int)) (de_int)) (da_nil))) (dv 1))))))
abbrev s_law_leaf : Stmt := topS 9
abbrev NN_law_leaf : List Str := ["box", "k", "wide", "name", "label", "cost", "width", "rows", "y", "x"]
theorem sc_law_leaf : FnScope NN_law_leaf ["box", "k", "wide"] (defScope s_law_leaf) := ⟨rfl, rfl, rfl, by decide +kernel, rfl, by decide +kernel, by decide +kernel⟩
/-- _law_leaf -/
noncomputable def B_law_leaf (g_law_draw : FD) : SD := sSeq (sSet 3 (eBin gAdd (eC (.str "p")) (eB gToStr (aCons (eVar 1) (aNil))))) (sSeq (sSet 4 (eBin gIx (eLst (aCons (eC (.str "")) (aCons (eC (.str "x")) (aCons (eC (.str "yz")) (aNil))))) (eCall 2 g_law_draw (aCons (eVar 0) (aCons (eC (.int 3)) (aNil)))))) (sSeq (sSet 5 (eCall 2 g_law_draw (aCons (eVar 0) (aCons (eC (.int 4)) (aNil))))) (sSeq (sIf (asB (eBin (gEq false) (eCall 2 g_law_draw (aCons (eVar 0) (aCons (eC (.int 2)) (aNil)))) (eC (.int 0)))) (sRetR (eTup (aCons (eC (.str "plain")) (aCons (eVar 3) (aCons (eVar 4) (aCons (eVar 5) (aCons (eBin (gEq false) (eCall 2 g_law_draw (aCons (eVar 0) (aCons (eC (.int 2)) (aNil)))) (eC (.int 1))) (aNil)))))))) (sNil)) (sSeq (sSet 6 (eBin gAdd (eC (.int 1)) (eCall 2 g_law_draw (aCons (eVar 0) (aCons (eVar 2) (aNil)))))) (sSeq (sSet 7 (eLstO (aNil))) (sSeq (sFor (iRgA (aCons (eBin gAdd (eC (.int 1)) (eCall 2 g_law_draw (aCons (eVar 0) (aCons (eVar 2) (aNil))))) (aNil))) (gNm 8) (sExpr (eMth gApp (eVar 7) (aCons (eJoin (eC (.str "")) (eLc (iRgA (aCons (eVar 6) (aNil))) (gNm 9) (bYes) (eBin gIx (eC (.str ".#")) (eCall 2 g_law_draw (aCons (eVar 0) (aCons (eC (.int 2)) (aNil))))) [9])) (aNil))))) (sRetR (eTup (aCons (eC (.str "shape")) (aCons (eVar 3) (aCons (eVar 4) (aCons (eVar 5) (aCons (eB gToTup (aCons (eVar 7) (aNil))) (aNil))))))))))))))
theorem d_law_leaf {P : Program} {w : World} {K : PySem.W.Frag} {mg : Str → Option Value} {base : Heap} {j : Nat} {g_law_draw : FD} {k_law_draw : Nat} (F_law_draw : FnD P w K mg base k_law_draw "_law_draw" 2 g_law_draw) (hk_law_draw : k_law_draw ≤ j) (m_range : mg "range" = none) (m_str : mg "str" = none) (m_tuple : mg "tuple" = none) {cdv : Value} {A : Around} {outer : List PySem.Env} {s : Shared} {H : Hp} {E : XK} {f : Addr} (hr : Room j (A.deeper (envOfC "_law_leaf" (defScope s_law_leaf) s.heap.objs.size f cdv))) :
    DSs (cxOf CX0 P w K mg base NN_law_leaf "_law_leaf" (defScope s_law_leaf) f cdv A outer s H E).nox (fun _ _ _ _ => False) (defBody s_law_leaf) (B_law_leaf g_law_draw) := by
  have hu := hr.units
  have hu1 := units65 hr
  exact dss_cons (dset 3 sc_law_leaf.nd (de_bin od_add (de_str) (de_callT cd_str rfl m_str (by decide +kernel) (da_cons (dv 1) (da_nil))))) (dss_cons (dset 4 sc_law_leaf.nd (de_ix (de_lst (da_cons (de_str) (da_cons (de_str) (da_cons (de_str) (da_nil))))) (de_call F_law_draw hr hk_law_draw rfl (da_cons (dv 0) (da_cons (de_int) (da_nil)))) (fun _ _ => rfl))) (dss_cons (dset 5 sc_law_leaf.nd (de_call F_law_draw hr hk_law_draw rfl (da_cons (dv 0) (da_cons (de_int) (da_nil))))) (dss_cons (ds_if (dt_cmp (od_eq hu) (de_call F_law_draw hr hk_law_draw rfl (da_cons (dv 0) (da_cons (de_int) (da_nil)))) (de_int) (nomark _)) (dss_one (ds_retR (de_tup (da_cons (de_str) (da_cons (dv 3) (da_cons (dv 4) (da_cons (dv 5) (da_cons (de_cmp (od_eq hu) (de_call F_law_draw hr hk_law_draw rfl (da_cons (dv 0) (da_cons (de_int) (da_nil)))) (de_int) (nomark _)) (da_nil))))))))) (dss_nil)) (dss_cons (dset 6 sc_law_leaf.nd (de_bin od_add (de_int) (de_call F_law_draw hr hk_law_draw rfl (da_cons (dv 0) (da_cons (dv 2) (da_nil)))))) (dss_cons (dset 7 sc_law_leaf.nd (de_lstO (da_nil))) (dss_cons (ds_for PassesOwn.never rfl (di_range1 rfl m_range (da_cons (de_bin od_add (de_int) (de_call F_law_draw hr hk_law_draw rfl (da_cons (dv 0) (da_cons (dv 2) (da_nil))))) (da_nil))) (dgn 8 sc_law_leaf.nd) (dss_one (ds_expr (de_mth md_append PySem.F.slot_list_append PySem.F.type_list_append (dv 7) (da_cons (de_join (de_str) (de_lc (own := [("x", 9)]) rfl sc_law_leaf.nd (di_range1 rfl m_range (da_cons (dv 6) (da_nil))) (blkOk_by (N := NN_law_leaf) (sc := defScope s_law_leaf) (by decide +kernel)) (fun _ _ _ _ _ => dgw 9 sc_law_leaf.nd (by decide)) (fun _ _ _ _ _ => dts_nil) (fun _ _ _ _ _ => de_ix (de_str) (de_call F_law_draw hr hk_law_draw rfl (da_cons (dv 0) (da_cons (de_int) (da_nil)))) (fun _ _ => rfl)))) (da_nil)))))) (dss_one (ds_retR (de_tup (da_cons (de_str) (da_cons (dv 3) (da_cons (dv 4) (da_cons (dv 5) (da_cons (de_callT cd_tuple rfl m_tuple (by decide +kernel) (da_cons (dv 7) (da_nil))) (da_nil)))))))))))))))
abbrev s_law_place : Stmt := topS 10
abbrev NN_law_place : List Str := ["box", "parts", "direction", "number", "part", "cost", "least", "size"]
theorem sc_law_place : FnScope NN_law_place ["box", "parts", "direction"] (defScope s_law_place) := ⟨rfl, rfl, rfl, by decide +kernel, rfl, by decide +kernel, by decide +kernel⟩
/-- _law_place -/
noncomputable def B_law_place (g_law_draw : FD) : SD := sSeq (sSet 3 (eBin gMod (eB gToInt (aCons (eCall 2 g_law_draw (aCons (eVar 0) (aCons (eC (.int 600)) (aNil)))) (aNil))) (eB gLen (aCons (eVar 1) (aNil))))) (sSeq (sSet 4 (eBin gIx (eVar 1) (eVar 3))) (sSeq (sSet 5 (eCall 2 g_law_draw (aCons (eVar 0) (aCons (eC (.int 3)) (aNil))))) (sSeq (sIf (bAnd (asB (eBin (gEq false) (eBin gIx (eVar 4) (eC (.int 0))) (eC (.str "shape")))) (asB (eBin gGt (eCall 2 g_law_draw (aCons (eVar 0) (aCons (eC (.int 4)) (aNil)))) (eC (.int 0))))) (sSeq (sSet 7 (eB gLen (aCons (eBin gIx (eVar 4) (eC (.int 4))) (aNil)))) (sSeq (sIf (asB (eBin (gEq false) (eVar 2) (eC (.str "across")))) (sSet 7 (eB gLen (aCons (eBin gIx (eBin gIx (eVar 4) (eC (.int 4))) (eC (.int 0))) (aNil)))) (sNil)) (sRetR (eTup (aCons (eC (.str "place")) (aCons (eVar 3) (aCons (eVar 7) (aCons (eVar 7) (aCons (eVar 5) (aNil)))))))))) (sNil)) (sSeq (sSet 6 (eBin gAdd (eC (.int 1)) (eCall 2 g_law_draw (aCons (eVar 0) (aCons (eC (.int 2)) (aNil)))))) (sRetR (eTup (aCons (eC (.str "place")) (aCons (eVar 3) (aCons (eVar 6) (aCons (eBin gAdd (eVar 6) (eCall 2 g_law_draw (aCons (eVar 0) (aCons (eC (.int 3)) (aNil))))) (aCons (eVar 5) (aNil))))))))))))
theorem d_law_place {P : Program} {w : World} {K : PySem.W.Frag} {mg : Str → Option Value} {base : Heap} {j : Nat} {g_law_draw : FD} {k_law_draw : Nat} (F_law_draw : FnD P w K mg base k_law_draw "_law_draw" 2 g_law_draw) (hk_law_draw : k_law_draw ≤ j) (m_int : mg "int" = none) (m_len : mg "len" = none) {cdv : Value} {A : Around} {outer : List PySem.Env} {s : Shared} {H : Hp} {E : XK} {f : Addr} (hr : Room j (A.deeper (envOfC "_law_place" (defScope s_law_place) s.heap.objs.size f cdv))) :
    DSs (cxOf CX0 P w K mg base NN_law_place "_law_place" (defScope s_law_place) f cdv A outer s H E).nox (fun _ _ _ _ => False) (defBody s_law_place) (B_law_place g_law_draw) := by
  have hu := hr.units
  have hu1 := units65 hr
  exact dss_cons (dset 3 sc_law_place.nd (de_bin od_mod (de_callT cd_int rfl m_int (by decide +kernel) (da_cons (de_call F_law_draw hr hk_law_draw rfl (da_cons (dv 0) (da_cons (de_int) (da_nil)))) (da_nil))) (de_callB cd_len rfl m_len boot_len (da_cons (dv 1) (da_nil))))) (dss_cons (dset 4 sc_law_place.nd (de_ix (dv 1) (dv 3) (fun _ _ => rfl))) (dss_cons (dset 5 sc_law_place.nd (de_call F_law_draw hr hk_law_draw rfl (da_cons (dv 0) (da_cons (de_int) (da_nil))))) (dss_cons (ds_if (DW.pt (dw_and (dt_cmp (od_eq hu) (de_ix (dv 4) (de_int) (fun _ _ => rfl)) (de_str) (nomark _)) (dw_and1 (dt_cmp od_gt (de_call F_law_draw hr hk_law_draw rfl (da_cons (dv 0) (da_cons (de_int) (da_nil)))) (de_int) (nomark _))))) (dss_cons (dset 7 sc_law_place.nd (de_callB cd_len rfl m_len boot_len (da_cons (de_ix (dv 4) (de_int) (fun _ _ => rfl)) (da_nil)))) (dss_cons (ds_if (dt_cmp (od_eq hu) (dv 2) (de_str) (nomark _)) (dss_one (dset 7 sc_law_place.nd (de_callB cd_len rfl m_len boot_len (da_cons (de_ix (de_ix (dv 4) (de_int) (fun _ _ => rfl)) (de_int) (fun _ _ => rfl)) (da_nil))))) (dss_nil)) (dss_one (ds_retR (de_tup (da_cons (de_str) (da_cons (dv 3) (da_cons (dv 7) (da_cons (dv 7) (da_cons (dv 5) (da_nil))))))))))) (dss_nil)) (dss_cons (dset 6 sc_law_place.nd (de_bin od_add (de_int) (de_call F_law_draw hr hk_law_draw rfl (da_cons (dv 0) (da_cons (de_int) (da_nil)))))) (dss_one (ds_retR (de_tup (da_cons (de_str) (da_cons (dv 3) (da_cons (dv 6) (da_cons (de_bin od_add (dv 6) (de_call F_law_draw hr hk_law_draw rfl (da_cons (dv 0) (da_cons (de_int) (da_nil))))) (da_cons (dv 5) (da_nil)))))))))))))
abbrev s_law_choice : Stmt := topS 11
abbrev NN_law_choice : List Str := ["box", "parts", "direction", "depth", "kind", "items", "k"]
theorem sc_law_choice : FnScope NN_law_choice ["box", "parts", "direction", "depth"] (defScope s_law_choice) := ⟨rfl, rfl, rfl, by decide +kernel, rfl, by decide +kernel, by decide +kernel⟩
/-- _law_choice -/
noncomputable def B_law_choice (g_law_draw : FD) (g_law_place : FD) (g_law_choice : FD) : SD := sSeq (sSet 4 (eCall 2 g_law_draw (aCons (eVar 0) (aCons (eC (.int 8)) (aNil))))) (sSeq (sIf (bOr (asB (eBin (gEq false) (eVar 3) (eC (.int 0)))) (asB (eBin gLt (eVar 4) (eC (.int 2))))) (sRetR (eCall 3 g_law_place (aCons (eVar 0) (aCons (eVar 1) (aCons (eVar 2) (aNil)))))) (sNil)) (sSeq (sIf (asB (eBin gLt (eVar 4) (eC (.int 6)))) (sSeq (sSet 5 (eB gToTup (aCons (eLc (iRgA (aCons (eC (.int 2)) (aNil))) (gNm 6) (bYes) (eCall 4 g_law_choice (aCons (eVar 0) (aCons (eVar 1) (aCons (eVar 2) (aCons (eBin gSub (eVar 3) (eC (.int 1))) (aNil)))))) [6]) (aNil)))) (sRetR (eTup (aCons (eBin gIx (eLst (aCons (eC (.str "sequence")) (aCons (eC (.str "choice")) (aNil)))) (eBin gMod (eB gToInt (aCons (eVar 4) (aNil))) (eC (.int 2)))) (aCons (eVar 5) (aNil)))))) (sNil)) (sRetR (eTup (aCons (eBin gIx (eLst (aCons (eC (.str "any")) (aCons (eC (.str "some")) (aCons (eC (.str "maybe")) (aNil))))) (eCall 2 g_law_draw (aCons (eVar 0) (aCons (eC (.int 3)) (aNil))))) (aCons (eCall 4 g_law_choice (aCons (eVar 0) (aCons (eVar 1) (aCons (eVar 2) (aCons (eBin gSub (eVar 3) (eC (.int 1))) (aNil)))))) (aNil)))))))
theorem d_law_choice {P : Program} {w : World} {K : PySem.W.Frag} {mg : Str → Option Value} {base : Heap} {j : Nat} {g_law_draw : FD} {k_law_draw : Nat} (F_law_draw : FnD P w K mg base k_law_draw "_law_draw" 2 g_law_draw) (hk_law_draw : k_law_draw ≤ j) {g_law_place : FD} {k_law_place : Nat} (F_law_place : FnD P w K mg base k_law_place "_law_place" 3 g_law_place) (hk_law_place : k_law_place ≤ j) {g_law_choice : FD} {k_law_choice : Nat} (F_law_choice : FnD P w K mg base k_law_choice "_law_choice" 4 g_law_choice) (hk_law_choice : k_law_choice ≤ j) (m_int : mg "int" = none) (m_range : mg "range" = none) (m_tuple : mg "tuple" = none) {cdv : Value} {A : Around} {outer : List PySem.Env} {s : Shared} {H : Hp} {E : XK} {f : Addr} (hr : Room j (A.deeper (envOfC "_law_choice" (defScope s_law_choice) s.heap.objs.size f cdv))) :
    DSs (cxOf CX0 P w K mg base NN_law_choice "_law_choice" (defScope s_law_choice) f cdv A outer s H E).nox (fun _ _ _ _ => False) (defBody s_law_choice) (B_law_choice g_law_draw g_law_place g_law_choice) := by
  have hu := hr.units
  have hu1 := units65 hr
  exact dss_cons (dset 4 sc_law_choice.nd (de_call F_law_draw hr hk_law_draw rfl (da_cons (dv 0) (da_cons (de_int) (da_nil))))) (dss_cons (ds_if (DW.pt (dw_or (dt_cmp (od_eq hu) (dv 3) (de_int) (nomark _)) (dw_or1 (dt_cmp od_lt (dv 4) (de_int) (nomark _))))) (dss_one (ds_retR (de_call F_law_place hr hk_law_place rfl (da_cons (dv 0) (da_cons (dv 1) (da_cons (dv 2) (da_nil))))))) (dss_nil)) (dss_cons (ds_if (dt_cmp od_lt (dv 4) (de_int) (nomark _)) (dss_cons (dset 5 sc_law_choice.nd (de_callT cd_tuple rfl m_tuple (by decide +kernel) (da_cons (de_lc (own := [("k", 6)]) rfl sc_law_choice.nd (di_range1 rfl m_range (da_cons (de_int) (da_nil))) (blkOk_by (N := NN_law_choice) (sc := defScope s_law_choice) (by decide +kernel)) (fun _ _ _ _ _ => dgw 6 sc_law_choice.nd (by decide)) (fun _ _ _ _ _ => dts_nil) (fun _ _ _ _ _ => de_call F_law_choice hr hk_law_choice rfl (da_cons (dv 0) (da_cons (dv 1) (da_cons (dv 2) (da_cons (de_bin od_sub (dv 3) (de_int)) (da_nil))))))) (da_nil)))) (dss_one (ds_retR (de_tup (da_cons (de_ix (de_lst (da_cons (de_str) (da_cons (de_str) (da_nil)))) (de_bin od_mod (de_callT cd_int rfl m_int (by decide +kernel) (da_cons (dv 4) (da_nil))) (de_int)) (fun _ _ => rfl)) (da_cons (dv 5) (da_nil))))))) (dss_nil)) (dss_one (ds_retR (de_tup (da_cons (de_ix (de_lst (da_cons (de_str) (da_cons (de_str) (da_cons (de_str) (da_nil))))) (de_call F_law_draw hr hk_law_draw rfl (da_cons (dv 0) (da_cons (de_int) (da_nil)))) (fun _ _ => rfl)) (da_cons (de_call F_law_choice hr hk_law_choice rfl (da_cons (dv 0) (da_cons (dv 1) (da_cons (dv 2) (da_cons (de_bin od_sub (dv 3) (de_int)) (da_nil)))))) (da_nil))))))))
abbrev s_law_parts : Stmt := topS 12
abbrev NN_law_parts : List Str := ["box", "wide", "strips", "parts", "k", "direction", "choice"]
theorem sc_law_parts : FnScope NN_law_parts ["box", "wide", "strips"] (defScope s_law_parts) := ⟨rfl, rfl, rfl, by decide +kernel, rfl, by decide +kernel, by decide +kernel⟩
/-- _law_parts -/
noncomputable def B_law_parts (g_law_draw : FD) (g_law_leaf : FD) (g_law_choice : FD) : SD := sSeq (sSet 3 (eLstO (aNil))) (sSeq (sFor (iRgA (aCons (eBin gAdd (eC (.int 2)) (eCall 2 g_law_draw (aCons (eVar 0) (aCons (eC (.int 3)) (aNil))))) (aNil))) (gNm 4) (sExpr (eMth gApp (eVar 3) (aCons (eCall 3 g_law_leaf (aCons (eVar 0) (aCons (eVar 4) (aCons (eVar 1) (aNil))))) (aNil))))) (sSeq (sFor (iRgA (aCons (eVar 2) (aNil))) (gNm 4) (sSeq (sSet 5 (eBin gIx (eLst (aCons (eC (.str "across")) (aCons (eC (.str "down")) (aNil)))) (eCall 2 g_law_draw (aCons (eVar 0) (aCons (eC (.int 2)) (aNil)))))) (sSeq (sSet 6 (eTup (aCons (eBin gIx (eLst (aCons (eC (.str "any")) (aCons (eC (.str "some")) (aCons (eC (.str "any")) (aNil))))) (eCall 2 g_law_draw (aCons (eVar 0) (aCons (eC (.int 3)) (aNil))))) (aCons (eCall 4 g_law_choice (aCons (eVar 0) (aCons (eVar 3) (aCons (eVar 5) (aCons (eC (.int 2)) (aNil)))))) (aNil))))) (sSeq (sIf (asB (eBin (gEq false) (eCall 2 g_law_draw (aCons (eVar 0) (aCons (eC (.int 3)) (aNil)))) (eC (.int 0)))) (sSet 6 (eBin gIx (eVar 6) (eC (.int 1)))) (sNil)) (sExpr (eMth gApp (eVar 3) (aCons (eTup (aCons (eVar 5) (aCons (eBin gAdd (eC (.str "s")) (eB gToStr (aCons (eVar 4) (aNil)))) (aCons (eBin gIx (eLst (aCons (eC (.str "")) (aCons (eC (.str "/")) (aCons (eC (.str " ")) (aNil))))) (eCall 2 g_law_draw (aCons (eVar 0) (aCons (eC (.int 3)) (aNil))))) (aCons (eVar 6) (aNil)))))) (aNil)))))))) (sRetR (eB gToTup (aCons (eVar 3) (aNil))))))
theorem d_law_parts {P : Program} {w : World} {K : PySem.W.Frag} {mg : Str → Option Value} {base : Heap} {j : Nat} {g_law_draw : FD} {k_law_draw : Nat} (F_law_draw : FnD P w K mg base k_law_draw "_law_draw" 2 g_law_draw) (hk_law_draw : k_law_draw ≤ j) {g_law_leaf : FD} {k_law_leaf : Nat} (F_law_leaf : FnD P w K mg base k_law_leaf "_law_leaf" 3 g_law_leaf) (hk_law_leaf : k_law_leaf ≤ j) {g_law_choice : FD} {k_law_choice : Nat} (F_law_choice : FnD P w K mg base k_law_choice "_law_choice" 4 g_law_choice) (hk_law_choice : k_law_choice ≤ j) (m_range : mg "range" = none) (m_str : mg "str" = none) (m_tuple : mg "tuple" = none) {cdv : Value} {A : Around} {outer : List PySem.Env} {s : Shared} {H : Hp} {E : XK} {f : Addr} (hr : Room j (A.deeper (envOfC "_law_parts" (defScope s_law_parts) s.heap.objs.size f cdv))) :
    DSs (cxOf CX0 P w K mg base NN_law_parts "_law_parts" (defScope s_law_parts) f cdv A outer s H E).nox (fun _ _ _ _ => False) (defBody s_law_parts) (B_law_parts g_law_draw g_law_leaf g_law_choice) := by
  have hu := hr.units
  have hu1 := units65 hr
  exact dss_cons (dset 3 sc_law_parts.nd (de_lstO (da_nil))) (dss_cons (ds_for PassesOwn.never rfl (di_range1 rfl m_range (da_cons (de_bin od_add (de_int) (de_call F_law_draw hr hk_law_draw rfl (da_cons (dv 0) (da_cons (de_int) (da_nil))))) (da_nil))) (dgn 4 sc_law_parts.nd) (dss_one (ds_expr (de_mth md_append PySem.F.slot_list_append PySem.F.type_list_append (dv 3) (da_cons (de_call F_law_leaf hr hk_law_leaf rfl (da_cons (dv 0) (da_cons (dv 4) (da_cons (dv 1) (da_nil))))) (da_nil)))))) (dss_cons (ds_for PassesOwn.never rfl (di_range1 rfl m_range (da_cons (dv 2) (da_nil))) (dgn 4 sc_law_parts.nd) (dss_cons (dset 5 sc_law_parts.nd (de_ix (de_lst (da_cons (de_str) (da_cons (de_str) (da_nil)))) (de_call F_law_draw hr hk_law_draw rfl (da_cons (dv 0) (da_cons (de_int) (da_nil)))) (fun _ _ => rfl))) (dss_cons (dset 6 sc_law_parts.nd (de_tup (da_cons (de_ix (de_lst (da_cons (de_str) (da_cons (de_str) (da_cons (de_str) (da_nil))))) (de_call F_law_draw hr hk_law_draw rfl (da_cons (dv 0) (da_cons (de_int) (da_nil)))) (fun _ _ => rfl)) (da_cons (de_call F_law_choice hr hk_law_choice rfl (da_cons (dv 0) (da_cons (dv 3) (da_cons (dv 5) (da_cons (de_int) (da_nil)))))) (da_nil))))) (dss_cons (ds_if (dt_cmp (od_eq hu) (de_call F_law_draw hr hk_law_draw rfl (da_cons (dv 0) (da_cons (de_int) (da_nil)))) (de_int) (nomark _)) (dss_one (dset 6 sc_law_parts.nd (de_ix (dv 6) (de_int) (fun _ _ => rfl)))) (dss_nil)) (dss_one (ds_expr (de_mth md_append PySem.F.slot_list_append PySem.F.type_list_append (dv 3) (da_cons (de_tup (da_cons (dv 5) (da_cons (de_bin od_add (de_str) (de_callT cd_str rfl m_str (by decide +kernel) (da_cons (dv 4) (da_nil)))) (da_cons (de_ix (de_lst (da_cons (de_str) (da_cons (de_str) (da_cons (de_str) (da_nil))))) (de_call F_law_draw hr hk_law_draw rfl (da_cons (dv 0) (da_cons (de_int) (da_nil)))) (fun _ _ => rfl)) (da_cons (dv 6) (da_nil)))))) (da_nil))))))))) (dss_one (ds_retR (de_callT cd_tuple rfl m_tuple (by decide +kernel) (da_cons (dv 3) (da_nil)))))))
abbrev s_law_strip : Stmt := topS 13
abbrev NN_law_strip : List Str := ["part"]
theorem sc_law_strip : FnScope NN_law_strip ["part"] (defScope s_law_strip) := ⟨rfl, rfl, rfl, by decide +kernel, rfl, by decide +kernel, by decide +kernel⟩
/-- _law_strip -/
noncomputable def B_law_strip : SD := sRetR (eOr (eBin (gEq false) (eBin gIx (eVar 0) (eC (.int 0))) (eC (.str "across"))) (eBin (gEq false) (eBin gIx (eVar 0) (eC (.int 0))) (eC (.str "down"))))
theorem d_law_strip {P : Program} {w : World} {K : PySem.W.Frag} {mg : Str → Option Value} {base : Heap} {j : Nat} {cdv : Value} {A : Around} {outer : List PySem.Env} {s : Shared} {H : Hp} {E : XK} {f : Addr} (hr : Room j (A.deeper (envOfC "_law_strip" (defScope s_law_strip) s.heap.objs.size f cdv))) :
    DSs (cxOf CX0 P w K mg base NN_law_strip "_law_strip" (defScope s_law_strip) f cdv A outer s H E).nox (fun _ _ _ _ => False) (defBody s_law_strip) (B_law_strip) := by
  have hu := hr.units
  have hu1 := units65 hr
  exact dss_one (ds_retR (de_or (de_cmp (od_eq hu) (de_ix (dv 0) (de_int) (fun _ _ => rfl)) (de_str) (nomark _)) (de_one (de_cmp (od_eq hu) (de_ix (dv 0) (de_int) (fun _ _ => rfl)) (de_str) (nomark _)))))
abbrev s_law_region : Stmt := topS 14
abbrev NN_law_region : List Str := ["box", "parts", "region", "number", "x", "y", "wide", "high", "part"]
theorem sc_law_region : FnScope NN_law_region ["box", "parts", "region"] (defScope s_law_region) := ⟨rfl, rfl, rfl, by decide +kernel, rfl, by decide +kernel, by decide +kernel⟩
/-- _law_region -/
noncomputable def B_law_region (g_law_draw : FD) : SD := sSeq (sSet 3 (eBin gMod (eB gToInt (aCons (eCall 2 g_law_draw (aCons (eVar 0) (aCons (eC (.int 600)) (aNil)))) (aNil))) (eB gLen (aCons (eVar 1) (aNil))))) (sSeq (sSet 4 (eCall 2 g_law_draw (aCons (eVar 0) (aCons (eBin gIx (eVar 2) (eC (.int 3))) (aNil))))) (sSeq (sSet 5 (eCall 2 g_law_draw (aCons (eVar 0) (aCons (eBin gIx (eVar 2) (eC (.int 4))) (aNil))))) (sSeq (sSet 6 (eBin gAdd (eC (.int 1)) (eCall 2 g_law_draw (aCons (eVar 0) (aCons (eBin gSub (eBin gIx (eVar 2) (eC (.int 3))) (eVar 4)) (aNil)))))) (sSeq (sSet 7 (eBin gAdd (eC (.int 1)) (eCall 2 g_law_draw (aCons (eVar 0) (aCons (eBin gSub (eBin gIx (eVar 2) (eC (.int 4))) (eVar 5)) (aNil)))))) (sSeq (sSet 8 (eBin gIx (eVar 1) (eVar 3))) (sSeq (sIf (bAnd (asB (eBin (gEq false) (eBin gIx (eVar 8) (eC (.int 0))) (eC (.str "shape")))) (bAnd (asB (eBin gLe (eBin gAdd (eVar 4) (eB gLen (aCons (eBin gIx (eBin gIx (eVar 8) (eC (.int 4))) (eC (.int 0))) (aNil)))) (eBin gIx (eVar 2) (eC (.int 3))))) (asB (eBin gLe (eBin gAdd (eVar 5) (eB gLen (aCons (eBin gIx (eVar 8) (eC (.int 4))) (aNil)))) (eBin gIx (eVar 2) (eC (.int 4))))))) (sSeq (sSet 6 (eB gLen (aCons (eBin gIx (eBin gIx (eVar 8) (eC (.int 4))) (eC (.int 0))) (aNil)))) (sSet 7 (eB gLen (aCons (eBin gIx (eVar 8) (eC (.int 4))) (aNil))))) (sNil)) (sRetR (eTup (aCons (eVar 3) (aCons (eBin gAdd (eBin gIx (eVar 2) (eC (.int 1))) (eVar 4)) (aCons (eBin gAdd (eBin gIx (eVar 2) (eC (.int 2))) (eVar 5)) (aCons (eVar 6) (aCons (eVar 7) (aNil))))))))))))))
theorem d_law_region {P : Program} {w : World} {K : PySem.W.Frag} {mg : Str → Option Value} {base : Heap} {j : Nat} {g_law_draw : FD} {k_law_draw : Nat} (F_law_draw : FnD P w K mg base k_law_draw "_law_draw" 2 g_law_draw) (hk_law_draw : k_law_draw ≤ j) (m_int : mg "int" = none) (m_len : mg "len" = none) {cdv : Value} {A : Around} {outer : List PySem.Env} {s : Shared} {H : Hp} {E : XK} {f : Addr} (hr : Room j (A.deeper (envOfC "_law_region" (defScope s_law_region) s.heap.objs.size f cdv))) :
    DSs (cxOf CX0 P w K mg base NN_law_region "_law_region" (defScope s_law_region) f cdv A outer s H E).nox (fun _ _ _ _ => False) (defBody s_law_region) (B_law_region g_law_draw) := by
  have hu := hr.units
  have hu1 := units65 hr
  exact dss_cons (dset 3 sc_law_region.nd (de_bin od_mod (de_callT cd_int rfl m_int (by decide +kernel) (da_cons (de_call F_law_draw hr hk_law_draw rfl (da_cons (dv 0) (da_cons (de_int) (da_nil)))) (da_nil))) (de_callB cd_len rfl m_len boot_len (da_cons (dv 1) (da_nil))))) (dss_cons (dset 4 sc_law_region.nd (de_call F_law_draw hr hk_law_draw rfl (da_cons (dv 0) (da_cons (de_ix (dv 2) (de_int) (fun _ _ => rfl)) (da_nil))))) (dss_cons (dset 5 sc_law_region.nd (de_call F_law_draw hr hk_law_draw rfl (da_cons (dv 0) (da_cons (de_ix (dv 2) (de_int) (fun _ _ => rfl)) (da_nil))))) (dss_cons (dset 6 sc_law_region.nd (de_bin od_add (de_int) (de_call F_law_draw hr hk_law_draw rfl (da_cons (dv 0) (da_cons (de_bin od_sub (de_ix (dv 2) (de_int) (fun _ _ => rfl)) (dv 4)) (da_nil)))))) (dss_cons (dset 7 sc_law_region.nd (de_bin od_add (de_int) (de_call F_law_draw hr hk_law_draw rfl (da_cons (dv 0) (da_cons (de_bin od_sub (de_ix (dv 2) (de_int) (fun _ _ => rfl)) (dv 5)) (da_nil)))))) (dss_cons (dset 8 sc_law_region.nd (de_ix (dv 1) (dv 3) (fun _ _ => rfl))) (dss_cons (ds_if (DW.pt (dw_and (dt_cmp (od_eq hu) (de_ix (dv 8) (de_int) (fun _ _ => rfl)) (de_str) (nomark _)) (dw_and (dt_cmp od_le (de_bin od_add (dv 4) (de_callB cd_len rfl m_len boot_len (da_cons (de_ix (de_ix (dv 8) (de_int) (fun _ _ => rfl)) (de_int) (fun _ _ => rfl)) (da_nil)))) (de_ix (dv 2) (de_int) (fun _ _ => rfl)) (nomark _)) (dw_and1 (dt_cmp od_le (de_bin od_add (dv 5) (de_callB cd_len rfl m_len boot_len (da_cons (de_ix (dv 8) (de_int) (fun _ _ => rfl)) (da_nil)))) (de_ix (dv 2) (de_int) (fun _ _ => rfl)) (nomark _)))))) (dss_cons (dset 6 sc_law_region.nd (de_callB cd_len rfl m_len boot_len (da_cons (de_ix (de_ix (dv 8) (de_int) (fun _ _ => rfl)) (de_int) (fun _ _ => rfl)) (da_nil)))) (dss_one (dset 7 sc_law_region.nd (de_callB cd_len rfl m_len boot_len (da_cons (de_ix (dv 8) (de_int) (fun _ _ => rfl)) (da_nil)))))) (dss_nil)) (dss_one (ds_retR (de_tup (da_cons (dv 3) (da_cons (de_bin od_add (de_ix (dv 2) (de_int) (fun _ _ => rfl)) (dv 4)) (da_cons (de_bin od_add (de_ix (dv 2) (de_int) (fun _ _ => rfl)) (dv 5)) (da_cons (dv 6) (da_cons (dv 7) (da_nil)))))))))))))))
abbrev s_law_meets : Stmt := topS 15
abbrev NN_law_meets : List Str := ["one", "other"]
theorem sc_law_meets : FnScope NN_law_meets ["one", "other"] (defScope s_law_meets) := ⟨rfl, rfl, rfl, by decide +kernel, rfl, by decide +kernel, by decide +kernel⟩
/-- _law_meets -/
noncomputable def B_law_meets : SD := sSeq (sIf (bOr (asB (eBin gGe (eBin gIx (eVar 0) (eC (.int 1))) (eBin gAdd (eBin gIx (eVar 1) (eC (.int 1))) (eBin gIx (eVar 1) (eC (.int 3)))))) (asB (eBin gGe (eBin gIx (eVar 1) (eC (.int 1))) (eBin gAdd (eBin gIx (eVar 0) (eC (.int 1))) (eBin gIx (eVar 0) (eC (.int 3))))))) (sRetR (eC (.bool false))) (sNil)) (sRetR (eAnd (eBin gLt (eBin gIx (eVar 0) (eC (.int 2))) (eBin gAdd (eBin gIx (eVar 1) (eC (.int 2))) (eBin gIx (eVar 1) (eC (.int 4))))) (eBin gLt (eBin gIx (eVar 1) (eC (.int 2))) (eBin gAdd (eBin gIx (eVar 0) (eC (.int 2))) (eBin gIx (eVar 0) (eC (.int 4)))))))
theorem d_law_meets {P : Program} {w : World} {K : PySem.W.Frag} {mg : Str → Option Value} {base : Heap} {j : Nat} {cdv : Value} {A : Around} {outer : List PySem.Env} {s : Shared} {H : Hp} {E : XK} {f : Addr} (hr : Room j (A.deeper (envOfC "_law_meets" (defScope s_law_meets) s.heap.objs.size f cdv))) :
    DSs (cxOf CX0 P w K mg base NN_law_meets "_law_meets" (defScope s_law_meets) f cdv A outer s H E).nox (fun _ _ _ _ => False) (defBody s_law_meets) (B_law_meets) := by
  have hu := hr.units
  have hu1 := units65 hr
  exact dss_cons (ds_if (DW.pt (dw_or (dt_cmp od_ge (de_ix (dv 0) (de_int) (fun _ _ => rfl)) (de_bin od_add (de_ix (dv 1) (de_int) (fun _ _ => rfl)) (de_ix (dv 1) (de_int) (fun _ _ => rfl))) (nomark _)) (dw_or1 (dt_cmp od_ge (de_ix (dv 1) (de_int) (fun _ _ => rfl)) (de_bin od_add (de_ix (dv 0) (de_int) (fun _ _ => rfl)) (de_ix (dv 0) (de_int) (fun _ _ => rfl))) (nomark _))))) (dss_one (ds_retR (de_bl))) (dss_nil)) (dss_one (ds_retR (de_and (de_cmp od_lt (de_ix (dv 0) (de_int) (fun _ _ => rfl)) (de_bin od_add (de_ix (dv 1) (de_int) (fun _ _ => rfl)) (de_ix (dv 1) (de_int) (fun _ _ => rfl))) (nomark _)) (de_one (de_cmp od_lt (de_ix (dv 1) (de_int) (fun _ _ => rfl)) (de_bin od_add (de_ix (dv 0) (de_int) (fun _ _ => rfl)) (de_ix (dv 0) (de_int) (fun _ _ => rfl))) (nomark _))))))
abbrev s_law_allowed : Stmt := topS 16
abbrev NN_law_allowed : List Str := ["parts", "found", "wishes", "region", "fixed"]
theorem sc_law_allowed : FnScope NN_law_allowed ["parts", "found", "wishes"] (defScope s_law_allowed) := ⟨rfl, rfl, rfl, by decide +kernel, rfl, by decide +kernel, by decide +kernel⟩
/-- _law_allowed -/
noncomputable def B_law_allowed (g_law_strip : FD) (g_law_meets : FD) : SD := sSeq (sFor (iLst (eVar 1)) (gNm 3) (sSeq (sIf (asB (eBin (gInT false) (eVar 3) (eBin gIx (eVar 2) (eC (.int 1))))) (sRetR (eC (.bool false))) (sNil)) (sIf (bNot (bTru (eCall 1 g_law_strip (aCons (eBin gIx (eVar 0) (eBin gIx (eVar 3) (eC (.int 0)))) (aNil))))) (sFor (iTpl (eBin gIx (eVar 2) (eC (.int 0)))) (gNm 4) (sIf (bAnd (asB (eBin (gEq true) (eVar 4) (eVar 3))) (bTru (eCall 2 g_law_meets (aCons (eVar 4) (aCons (eVar 3) (aNil)))))) (sRetR (eC (.bool false))) (sNil))) (sNil)))) (sRetR (eC (.bool true)))
theorem d_law_allowed {P : Program} {w : World} {K : PySem.W.Frag} {mg : Str → Option Value} {base : Heap} {j : Nat} {g_law_strip : FD} {k_law_strip : Nat} (F_law_strip : FnD P w K mg base k_law_strip "_law_strip" 1 g_law_strip) (hk_law_strip : k_law_strip ≤ j) {g_law_meets : FD} {k_law_meets : Nat} (F_law_meets : FnD P w K mg base k_law_meets "_law_meets" 2 g_law_meets) (hk_law_meets : k_law_meets ≤ j) {cdv : Value} {A : Around} {outer : List PySem.Env} {s : Shared} {H : Hp} {E : XK} {f : Addr} (hr : Room j (A.deeper (envOfC "_law_allowed" (defScope s_law_allowed) s.heap.objs.size f cdv))) :
    DSs (cxOf CX0 P w K mg base NN_law_allowed "_law_allowed" (defScope s_law_allowed) f cdv A outer s H E).nox (fun _ _ _ _ => False) (defBody s_law_allowed) (B_law_allowed g_law_strip g_law_meets) := by
  have hu := hr.units
  have hu1 := units65 hr
  exact dss_cons (ds_for PassesOwn.never rfl (di_lst (dv 1)) (dgn 3 sc_law_allowed.nd) (dss_cons (ds_if (dt_cmp (od_inT hu1) (dv 3) (de_ix (dv 2) (de_int) (fun _ _ => rfl)) (by rfl)) (dss_one (ds_retR (de_bl))) (dss_nil)) (dss_one (ds_if (dt_not (dt_truth (de_call F_law_strip hr hk_law_strip rfl (da_cons (de_ix (dv 0) (de_ix (dv 3) (de_int) (fun _ _ => rfl)) (fun _ _ => rfl)) (da_nil))))) (dss_one (ds_for PassesOwn.never rfl (di_tup (de_ix (dv 2) (de_int) (fun _ _ => rfl))) (dgn 4 sc_law_allowed.nd) (dss_one (ds_if (DW.pt (dw_and (dt_cmp (od_ne hu) (dv 4) (dv 3) (nomark _)) (dw_and1 (dt_truth (de_call F_law_meets hr hk_law_meets rfl (da_cons (dv 4) (da_cons (dv 3) (da_nil)))))))) (dss_one (ds_retR (de_bl))) (dss_nil))))) (dss_nil))))) (dss_one (ds_retR (de_bl)))
abbrev s_law : Stmt := topS 17
abbrev NN_law : List Str := ["script", "box", "parts", "page", "fixed", "forbidden", "k", "wishes", "asked", "region", "wish", "more", "told"]
theorem sc_law : FnScope NN_law ["script"] (defScope s_law) := ⟨rfl, rfl, rfl, by decide +kernel, rfl, by decide +kernel, by decide +kernel⟩
/-- law -/
noncomputable def B_law (g_law_parts : FD) (g_law_digits : FD) (g_law_draw : FD) (g_law_region : FD) (g_allowed : FD) (g_law_strip : FD) (g_law_allowed : FD) : SD := sSeq (sSet 1 (eLstO (aCons (eCall 3 g_law_digits (aCons (eVar 0) (aCons (eC (.int 0)) (aCons (eC (.int 16)) (aNil))))) (aCons (eC (.int 0)) (aNil))))) (sSeq (sSet 2 (eCall 3 g_law_parts (aCons (eVar 1) (aCons (eC (.int 3)) (aCons (eBin gAdd (eC (.int 1)) (eCall 2 g_law_draw (aCons (eVar 1) (aCons (eC (.int 2)) (aNil))))) (aNil)))))) (sSeq (sSet 1 (eLstO (aCons (eCall 3 g_law_digits (aCons (eVar 0) (aCons (eC (.int 16)) (aCons (eC (.int 28)) (aNil))))) (aCons (eC (.int 0)) (aNil))))) (sSeq (sSet 3 (eTup (aCons (eBin gSub (eB gLen (aCons (eVar 2) (aNil))) (eC (.int 1))) (aCons (eCall 2 g_law_draw (aCons (eVar 1) (aCons (eC (.int 5)) (aNil)))) (aCons (eCall 2 g_law_draw (aCons (eVar 1) (aCons (eC (.int 5)) (aNil)))) (aCons (eC (.int 5)) (aCons (eC (.int 4)) (aNil)))))))) (sSeq (sSet 4 (eLstO (aNil))) (sSeq (sSet 5 (eLstO (aNil))) (sSeq (sFor (iRgA (aCons (eCall 2 g_law_draw (aCons (eVar 1) (aCons (eC (.int 7)) (aNil)))) (aNil))) (gNm 6) (sSeq (sSet 10 (eCall 3 g_law_region (aCons (eVar 1) (aCons (eVar 2) (aCons (eVar 3) (aNil)))))) (sIf (bAnd (asB (eBin (gInT true) (eVar 10) (eVar 4))) (asB (eBin (gInT true) (eVar 10) (eVar 5)))) (sIf (bOr (bTru (eCall 1 g_law_strip (aCons (eBin gIx (eVar 2) (eBin gIx (eVar 10) (eC (.int 0)))) (aNil)))) (asB (eBin (gEq false) (eCall 2 g_law_draw (aCons (eVar 1) (aCons (eC (.int 3)) (aNil)))) (eC (.int 0))))) (sExpr (eMth gApp (eVar 5) (aCons (eVar 10) (aNil)))) (sExpr (eMth gApp (eVar 4) (aCons (eVar 10) (aNil))))) (sNil)))) (sSeq (sSet 7 (eTup (aCons (eB gToTup (aCons (eVar 4) (aNil))) (aCons (eB gToTup (aCons (eVar 5) (aNil))) (aNil))))) (sSeq (sSet 8 (eBin gAddO (eVar 4) (eVar 5))) (sSeq (sFor (iRgB (aCons (eC (.int 28)) (aCons (eB gMin2 (aCons (eC (.int 48)) (aCons (eB gMax2 (aCons (eC (.int 36)) (aCons (eB gLen (aCons (eVar 0) (aNil))) (aNil)))) (aNil)))) (aNil)))) (gNm 6) (sSeq (sSet 11 (eLstO (aCons (eCall 3 g_law_digits (aCons (eVar 0) (aCons (eVar 6) (aCons (eBin gAdd (eVar 6) (eC (.int 1))) (aNil))))) (aCons (eC (.int 0)) (aNil))))) (sSeq (sExpr (eMth gApp (eVar 8) (aCons (eCall 3 g_law_region (aCons (eVar 11) (aCons (eVar 2) (aCons (eVar 3) (aNil))))) (aNil)))) (sIf (bAnd (asB (eBin gGt (eB gLen (aCons (eVar 4) (aNil))) (eC (.int 0)))) (asB (eBin (gEq false) (eCall 2 g_law_draw (aCons (eVar 11) (aCons (eC (.int 3)) (aNil)))) (eC (.int 0))))) (sAsg (eBin gAdd (eTup (aCons (eBin gIx (eBin gIx (eVar 8) (eNeg (eC (.int 1)))) (eC (.int 0))) (aNil))) (eSl (eBin gIx (eVar 4) (eBin gMod (eCall 2 g_law_draw (aCons (eVar 11) (aCons (eC (.int 60)) (aNil)))) (eB gLen (aCons (eVar 4) (aNil))))) (oSome (eC (.int 1))) (oNone))) (gSetL (eVar 8) (eNeg (eC (.int 1))))) (sNil))))) (sSeq (sFor (iLst (eVar 8)) (gNm 9) (sSeq (sSet 12 (eCall 3 g_allowed (aCons (eVar 2) (aCons (eVar 9) (aCons (eVar 7) (aNil)))))) (sIf (bOr (bNot (bTru (eIsi "bool" (eVar 12)))) (asB (eBin (gEq true) (eVar 12) (eCall 3 g_law_allowed (aCons (eVar 2) (aCons (eLst (aCons (eVar 9) (aNil))) (aCons (eVar 7) (aNil)))))))) (sRetR (eC (.bool false))) (sNil)))) (sRetR (eC (.bool true)))))))))))))
theorem d_law {P : Program} {w : World} {K : PySem.W.Frag} {mg : Str → Option Value} {base : Heap} {j : Nat} {g_law_parts : FD} {k_law_parts : Nat} (F_law_parts : FnD P w K mg base k_law_parts "_law_parts" 3 g_law_parts) (hk_law_parts : k_law_parts ≤ j) {g_law_digits : FD} {k_law_digits : Nat} (F_law_digits : FnD P w K mg base k_law_digits "_law_digits" 3 g_law_digits) (hk_law_digits : k_law_digits ≤ j) {g_law_draw : FD} {k_law_draw : Nat} (F_law_draw : FnD P w K mg base k_law_draw "_law_draw" 2 g_law_draw) (hk_law_draw : k_law_draw ≤ j) {g_law_region : FD} {k_law_region : Nat} (F_law_region : FnD P w K mg base k_law_region "_law_region" 3 g_law_region) (hk_law_region : k_law_region ≤ j) {g_allowed : FD} {k_allowed : Nat} (F_allowed : FnD P w K mg base k_allowed "allowed" 3 g_allowed) (hk_allowed : k_allowed ≤ j) {g_law_strip : FD} {k_law_strip : Nat} (F_law_strip : FnD P w K mg base k_law_strip "_law_strip" 1 g_law_strip) (hk_law_strip : k_law_strip ≤ j) {g_law_allowed : FD} {k_law_allowed : Nat} (F_law_allowed : FnD P w K mg base k_law_allowed "_law_allowed" 3 g_law_allowed) (hk_law_allowed : k_law_allowed ≤ j) (m_bool : mg "bool" = none) (m_isinstance : mg "isinstance" = none) (m_len : mg "len" = none) (m_max : mg "max" = none) (m_min : mg "min" = none) (m_range : mg "range" = none) (m_tuple : mg "tuple" = none) {cdv : Value} {A : Around} {outer : List PySem.Env} {s : Shared} {H : Hp} {E : XK} {f : Addr} (hr : Room j (A.deeper (envOfC "law" (defScope s_law) s.heap.objs.size f cdv))) :
    DSs (cxOf CX0 P w K mg base NN_law "law" (defScope s_law) f cdv A outer s H E).nox (fun _ _ _ _ => False) (defBody s_law) (B_law g_law_parts g_law_digits g_law_draw g_law_region g_allowed g_law_strip g_law_allowed) := by
  have hu := hr.units
  have hu1 := units65 hr
  exact dss_cons (dset 1 sc_law.nd (de_lstO (da_cons (de_call F_law_digits hr hk_law_digits rfl (da_cons (dv 0) (da_cons (de_int) (da_cons (de_int) (da_nil))))) (da_cons (de_int) (da_nil))))) (dss_cons (dset 2 sc_law.nd (de_call F_law_parts hr hk_law_parts rfl (da_cons (dv 1) (da_cons (de_int) (da_cons (de_bin od_add (de_int) (de_call F_law_draw hr hk_law_draw rfl (da_cons (dv 1) (da_cons (de_int) (da_nil))))) (da_nil)))))) (dss_cons (dset 1 sc_law.nd (de_lstO (da_cons (de_call F_law_digits hr hk_law_digits rfl (da_cons (dv 0) (da_cons (de_int) (da_cons (de_int) (da_nil))))) (da_cons (de_int) (da_nil))))) (dss_cons (dset 3 sc_law.nd (de_tup (da_cons (de_bin od_sub (de_callB cd_len rfl m_len boot_len (da_cons (dv 2) (da_nil))) (de_int)) (da_cons (de_call F_law_draw hr hk_law_draw rfl (da_cons (dv 1) (da_cons (de_int) (da_nil)))) (da_cons (de_call F_law_draw hr hk_law_draw rfl (da_cons (dv 1) (da_cons (de_int) (da_nil)))) (da_cons (de_int) (da_cons (de_int) (da_nil)))))))) (dss_cons (dset 4 sc_law.nd (de_lstO (da_nil))) (dss_cons (dset 5 sc_law.nd (de_lstO (da_nil))) (dss_cons (ds_for PassesOwn.never rfl (di_range1 rfl m_range (da_cons (de_call F_law_draw hr hk_law_draw rfl (da_cons (dv 1) (da_cons (de_int) (da_nil)))) (da_nil))) (dgn 6 sc_law.nd) (dss_cons (dset 10 sc_law.nd (de_call F_law_region hr hk_law_region rfl (da_cons (dv 1) (da_cons (dv 2) (da_cons (dv 3) (da_nil)))))) (dss_one (ds_if (DW.pt (dw_and (dt_cmp (od_notinT hu1) (dv 10) (dv 4) (by rfl)) (dw_and1 (dt_cmp (od_notinT hu1) (dv 10) (dv 5) (by rfl))))) (dss_one (ds_if (DW.pt (dw_or (dt_truth (de_call F_law_strip hr hk_law_strip rfl (da_cons (de_ix (dv 2) (de_ix (dv 10) (de_int) (fun _ _ => rfl)) (fun _ _ => rfl)) (da_nil)))) (dw_or1 (dt_cmp (od_eq hu) (de_call F_law_draw hr hk_law_draw rfl (da_cons (dv 1) (da_cons (de_int) (da_nil)))) (de_int) (nomark _))))) (dss_one (ds_expr (de_mth md_append PySem.F.slot_list_append PySem.F.type_list_append (dv 5) (da_cons (dv 10) (da_nil))))) (dss_one (ds_expr (de_mth md_append PySem.F.slot_list_append PySem.F.type_list_append (dv 4) (da_cons (dv 10) (da_nil))))))) (dss_nil))))) (dss_cons (dset 7 sc_law.nd (de_tup (da_cons (de_callT cd_tuple rfl m_tuple (by decide +kernel) (da_cons (dv 4) (da_nil))) (da_cons (de_callT cd_tuple rfl m_tuple (by decide +kernel) (da_cons (dv 5) (da_nil))) (da_nil))))) (dss_cons (dset 8 sc_law.nd (de_bin od_addO (dv 4) (dv 5))) (dss_cons (ds_for PassesOwn.never rfl (di_range2 rfl m_range (da_cons (de_int) (da_cons (de_callB (cd_min2 rfl) rfl m_min (by decide +kernel) (da_cons (de_int) (da_cons (de_callB (cd_max2 rfl) rfl m_max (by decide +kernel) (da_cons (de_int) (da_cons (de_callB cd_len rfl m_len boot_len (da_cons (dv 0) (da_nil))) (da_nil)))) (da_nil)))) (da_nil)))) (dgn 6 sc_law.nd) (dss_cons (dset 11 sc_law.nd (de_lstO (da_cons (de_call F_law_digits hr hk_law_digits rfl (da_cons (dv 0) (da_cons (dv 6) (da_cons (de_bin od_add (dv 6) (de_int)) (da_nil))))) (da_cons (de_int) (da_nil))))) (dss_cons (ds_expr (de_mth md_append PySem.F.slot_list_append PySem.F.type_list_append (dv 8) (da_cons (de_call F_law_region hr hk_law_region rfl (da_cons (dv 11) (da_cons (dv 2) (da_cons (dv 3) (da_nil))))) (da_nil)))) (dss_one (ds_if (DW.pt (dw_and (dt_cmp od_gt (de_callB cd_len rfl m_len boot_len (da_cons (dv 4) (da_nil))) (de_int) (nomark _)) (dw_and1 (dt_cmp (od_eq hu) (de_call F_law_draw hr hk_law_draw rfl (da_cons (dv 11) (da_cons (de_int) (da_nil)))) (de_int) (nomark _))))) (dss_one (ds_asg (de_bin od_add (de_tup (da_cons (de_ix (de_ix (dv 8) (de_neg (de_int)) (fun _ _ => rfl)) (de_int) (fun _ _ => rfl)) (da_nil))) (de_sl (de_ix (dv 4) (de_bin od_mod (de_call F_law_draw hr hk_law_draw rfl (da_cons (dv 11) (da_cons (de_int) (da_nil)))) (de_callB cd_len rfl m_len boot_len (da_cons (dv 4) (da_nil)))) (fun _ _ => rfl)) (do_some (de_int)) (do_none))) (dg_setL (dv 8) (de_neg (de_int))))) (dss_nil)))))) (dss_cons (ds_for PassesOwn.never rfl (di_lst (dv 8)) (dgn 9 sc_law.nd) (dss_cons (dset 12 sc_law.nd (de_call F_allowed hr hk_allowed rfl (da_cons (dv 2) (da_cons (dv 9) (da_cons (dv 7) (da_nil)))))) (dss_one (ds_if (DW.pt (dw_or (dt_not (dt_truth (de_isi rfl m_isinstance rfl m_bool (by decide +kernel) (dv 12)))) (dw_or1 (dt_cmp (od_ne hu) (dv 12) (de_call F_law_allowed hr hk_law_allowed rfl (da_cons (dv 2) (da_cons (de_lst (da_cons (dv 9) (da_nil))) (da_cons (dv 7) (da_nil))))) (nomark _))))) (dss_one (ds_retR (de_bl))) (dss_nil))))) (dss_one (ds_retR (de_bl)))))))))))))
end My

namespace My
open PySem PySem.Spec PyProof.Rows L2 DL
/-! the defs together -/
noncomputable def G_law_draw : FD := gB NN_law_draw (B_law_draw)
noncomputable def G_law_leaf : FD := gB NN_law_leaf (B_law_leaf G_law_draw)
noncomputable def G_law_place : FD := gB NN_law_place (B_law_place G_law_draw)
noncomputable def G_law_choice : Nat → FD
  | 0 => fun _ _ => .st
  | n + 1 => gB NN_law_choice (B_law_choice G_law_draw G_law_place (G_law_choice n))
noncomputable def G_law_parts : FD := gB NN_law_parts (B_law_parts G_law_draw G_law_leaf (G_law_choice 4))
noncomputable def G_law_cell : FD := gB NN_law_cell (B_law_cell)
noncomputable def G_law_digits : FD := gB NN_law_digits (B_law_digits G_law_cell)
noncomputable def G_law_region : FD := gB NN_law_region (B_law_region G_law_draw)
noncomputable def G_is_strip : FD := gB NN_is_strip (B_is_strip)
noncomputable def G_overlap : FD := gB NN_overlap (B_overlap)
noncomputable def G_allowed : FD := gB NN_allowed (B_allowed G_is_strip G_overlap)
noncomputable def G_law_strip : FD := gB NN_law_strip (B_law_strip)
noncomputable def G_law_meets : FD := gB NN_law_meets (B_law_meets)
noncomputable def G_law_allowed : FD := gB NN_law_allowed (B_law_allowed G_law_strip G_law_meets)
noncomputable def G_law : FD := gB NN_law (B_law G_law_parts G_law_digits G_law_draw G_law_region G_allowed G_law_strip G_law_allowed)
def dd_law_draw : He.DefD := ⟨("_law_draw", none), "_law_draw", "_law_draw", defArgs s_law_draw, defBody s_law_draw, defScope s_law_draw, [], []⟩
theorem bb_law_draw : BindsAs "_law_draw" s_law_draw ["box", "many"] := fun _ _ _ _ _ _ us hl => match us, hl with | [_, _], _ => rfl
def dd_law_leaf : He.DefD := ⟨("_law_leaf", none), "_law_leaf", "_law_leaf", defArgs s_law_leaf, defBody s_law_leaf, defScope s_law_leaf, [], []⟩
theorem bb_law_leaf : BindsAs "_law_leaf" s_law_leaf ["box", "k", "wide"] := fun _ _ _ _ _ _ us hl => match us, hl with | [_, _, _], _ => rfl
def dd_law_place : He.DefD := ⟨("_law_place", none), "_law_place", "_law_place", defArgs s_law_place, defBody s_law_place, defScope s_law_place, [], []⟩
theorem bb_law_place : BindsAs "_law_place" s_law_place ["box", "parts", "direction"] := fun _ _ _ _ _ _ us hl => match us, hl with | [_, _, _], _ => rfl
def dd_law_choice : He.DefD := ⟨("_law_choice", none), "_law_choice", "_law_choice", defArgs s_law_choice, defBody s_law_choice, defScope s_law_choice, [], []⟩
theorem bb_law_choice : BindsAs "_law_choice" s_law_choice ["box", "parts", "direction", "depth"] := fun _ _ _ _ _ _ us hl => match us, hl with | [_, _, _, _], _ => rfl
def dd_law_parts : He.DefD := ⟨("_law_parts", none), "_law_parts", "_law_parts", defArgs s_law_parts, defBody s_law_parts, defScope s_law_parts, [], []⟩
theorem bb_law_parts : BindsAs "_law_parts" s_law_parts ["box", "wide", "strips"] := fun _ _ _ _ _ _ us hl => match us, hl with | [_, _, _], _ => rfl
def dd_law_cell : He.DefD := ⟨("_law_cell", none), "_law_cell", "_law_cell", defArgs s_law_cell, defBody s_law_cell, defScope s_law_cell, [], []⟩
theorem bb_law_cell : BindsAs "_law_cell" s_law_cell ["script", "k"] := fun _ _ _ _ _ _ us hl => match us, hl with | [_, _], _ => rfl
def dd_law_digits : He.DefD := ⟨("_law_digits", none), "_law_digits", "_law_digits", defArgs s_law_digits, defBody s_law_digits, defScope s_law_digits, [], []⟩
theorem bb_law_digits : BindsAs "_law_digits" s_law_digits ["script", "first", "last"] := fun _ _ _ _ _ _ us hl => match us, hl with | [_, _, _], _ => rfl
def dd_law_region : He.DefD := ⟨("_law_region", none), "_law_region", "_law_region", defArgs s_law_region, defBody s_law_region, defScope s_law_region, [], []⟩
theorem bb_law_region : BindsAs "_law_region" s_law_region ["box", "parts", "region"] := fun _ _ _ _ _ _ us hl => match us, hl with | [_, _, _], _ => rfl
def dd_is_strip : He.DefD := ⟨("is_strip", none), "is_strip", "is_strip", defArgs s_is_strip, defBody s_is_strip, defScope s_is_strip, [], []⟩
theorem bb_is_strip : BindsAs "is_strip" s_is_strip ["part"] := fun _ _ _ _ _ _ us hl => match us, hl with | [_], _ => rfl
def dd_overlap : He.DefD := ⟨("overlap", none), "overlap", "overlap", defArgs s_overlap, defBody s_overlap, defScope s_overlap, [], []⟩
theorem bb_overlap : BindsAs "overlap" s_overlap ["one", "other"] := fun _ _ _ _ _ _ us hl => match us, hl with | [_, _], _ => rfl
def dd_allowed : He.DefD := ⟨("allowed", none), "allowed", "allowed", defArgs s_allowed, defBody s_allowed, defScope s_allowed, [], []⟩
theorem bb_allowed : BindsAs "allowed" s_allowed ["parts", "region", "wishes"] := fun _ _ _ _ _ _ us hl => match us, hl with | [_, _, _], _ => rfl
def dd_law_strip : He.DefD := ⟨("_law_strip", none), "_law_strip", "_law_strip", defArgs s_law_strip, defBody s_law_strip, defScope s_law_strip, [], []⟩
theorem bb_law_strip : BindsAs "_law_strip" s_law_strip ["part"] := fun _ _ _ _ _ _ us hl => match us, hl with | [_], _ => rfl
def dd_law_meets : He.DefD := ⟨("_law_meets", none), "_law_meets", "_law_meets", defArgs s_law_meets, defBody s_law_meets, defScope s_law_meets, [], []⟩
theorem bb_law_meets : BindsAs "_law_meets" s_law_meets ["one", "other"] := fun _ _ _ _ _ _ us hl => match us, hl with | [_, _], _ => rfl
def dd_law_allowed : He.DefD := ⟨("_law_allowed", none), "_law_allowed", "_law_allowed", defArgs s_law_allowed, defBody s_law_allowed, defScope s_law_allowed, [], []⟩
theorem bb_law_allowed : BindsAs "_law_allowed" s_law_allowed ["parts", "found", "wishes"] := fun _ _ _ _ _ _ us hl => match us, hl with | [_, _, _], _ => rfl
def dd_law : He.DefD := ⟨("law", none), "law", "law", defArgs s_law, defBody s_law, defScope s_law, [], []⟩
theorem bb_law : BindsAs "law" s_law ["script"] := fun _ _ _ _ _ _ us hl => match us, hl with | [_], _ => rfl
def fnsD : List He.DefD := [dd_law_draw, dd_law_leaf, dd_law_place, dd_law_choice, dd_law_parts, dd_law_cell, dd_law_digits, dd_law_region, dd_is_strip, dd_overlap, dd_allowed, dd_law_strip, dd_law_meets, dd_law_allowed, dd_law]
def faD0 : List He.Fa := [.glo "_law_draw", .glo "_law_leaf", .glo "_law_place", .glo "_law_choice", .glo "_law_parts", .glo "_law_cell", .glo "_law_digits", .glo "_law_region", .glo "is_strip", .glo "overlap", .glo "allowed", .glo "_law_strip", .glo "_law_meets", .glo "_law_allowed", .glo "law", .free "int", .free "len", .free "range", .free "str", .free "tuple", .free "any", .free "bool", .free "isinstance", .free "max", .free "min"]
def faD : List He.Fa := faD0
def moreD (K : PySem.W.Frag) : Bool := true
theorem all_fns {P : Program} {w : World} {K : PySem.W.Frag} {h base : Heap} {mg : Str → Option Value} (X : K.In h) (G : h.Ns mainGlobals mg) (c : He.SaysD faD fnsD K) (cm : moreD K = true) :
    ∃ (f : Addr) (fd : FuncData), mg "law" = some (.ref f) ∧ FunS K "law" s_law f fd ∧ FnOk P w K mg base CX0 8 f fd ["script"] (spOf K mg 1 (fun ds S => noEx (G_law ds S))) := by
  obtain ⟨fd_law_draw, U_law_draw⟩ := c.def_ 0 (d := dd_law_draw) rfl
  have U_law_draw : FunS K "_law_draw" s_law_draw (He.ga K "_law_draw") fd_law_draw := U_law_draw
  obtain ⟨fd_law_leaf, U_law_leaf⟩ := c.def_ 1 (d := dd_law_leaf) rfl
  have U_law_leaf : FunS K "_law_leaf" s_law_leaf (He.ga K "_law_leaf") fd_law_leaf := U_law_leaf
  obtain ⟨fd_law_place, U_law_place⟩ := c.def_ 2 (d := dd_law_place) rfl
  have U_law_place : FunS K "_law_place" s_law_place (He.ga K "_law_place") fd_law_place := U_law_place
  obtain ⟨fd_law_choice, U_law_choice⟩ := c.def_ 3 (d := dd_law_choice) rfl
  have U_law_choice : FunS K "_law_choice" s_law_choice (He.ga K "_law_choice") fd_law_choice := U_law_choice
  obtain ⟨fd_law_parts, U_law_parts⟩ := c.def_ 4 (d := dd_law_parts) rfl
  have U_law_parts : FunS K "_law_parts" s_law_parts (He.ga K "_law_parts") fd_law_parts := U_law_parts
  obtain ⟨fd_law_cell, U_law_cell⟩ := c.def_ 5 (d := dd_law_cell) rfl
  have U_law_cell : FunS K "_law_cell" s_law_cell (He.ga K "_law_cell") fd_law_cell := U_law_cell
  obtain ⟨fd_law_digits, U_law_digits⟩ := c.def_ 6 (d := dd_law_digits) rfl
  have U_law_digits : FunS K "_law_digits" s_law_digits (He.ga K "_law_digits") fd_law_digits := U_law_digits
  obtain ⟨fd_law_region, U_law_region⟩ := c.def_ 7 (d := dd_law_region) rfl
  have U_law_region : FunS K "_law_region" s_law_region (He.ga K "_law_region") fd_law_region := U_law_region
  obtain ⟨fd_is_strip, U_is_strip⟩ := c.def_ 8 (d := dd_is_strip) rfl
  have U_is_strip : FunS K "is_strip" s_is_strip (He.ga K "is_strip") fd_is_strip := U_is_strip
  obtain ⟨fd_overlap, U_overlap⟩ := c.def_ 9 (d := dd_overlap) rfl
  have U_overlap : FunS K "overlap" s_overlap (He.ga K "overlap") fd_overlap := U_overlap
  obtain ⟨fd_allowed, U_allowed⟩ := c.def_ 10 (d := dd_allowed) rfl
  have U_allowed : FunS K "allowed" s_allowed (He.ga K "allowed") fd_allowed := U_allowed
  obtain ⟨fd_law_strip, U_law_strip⟩ := c.def_ 11 (d := dd_law_strip) rfl
  have U_law_strip : FunS K "_law_strip" s_law_strip (He.ga K "_law_strip") fd_law_strip := U_law_strip
  obtain ⟨fd_law_meets, U_law_meets⟩ := c.def_ 12 (d := dd_law_meets) rfl
  have U_law_meets : FunS K "_law_meets" s_law_meets (He.ga K "_law_meets") fd_law_meets := U_law_meets
  obtain ⟨fd_law_allowed, U_law_allowed⟩ := c.def_ 13 (d := dd_law_allowed) rfl
  have U_law_allowed : FunS K "_law_allowed" s_law_allowed (He.ga K "_law_allowed") fd_law_allowed := U_law_allowed
  obtain ⟨fd_law, U_law⟩ := c.def_ 14 (d := dd_law) rfl
  have U_law : FunS K "law" s_law (He.ga K "law") fd_law := U_law
  have e_law_draw : mg "_law_draw" = some (.ref (He.ga K "_law_draw")) := He.glo_ok X G (c.fact 0 (f := .glo "_law_draw") rfl)
  have e_law_leaf : mg "_law_leaf" = some (.ref (He.ga K "_law_leaf")) := He.glo_ok X G (c.fact 1 (f := .glo "_law_leaf") rfl)
  have e_law_place : mg "_law_place" = some (.ref (He.ga K "_law_place")) := He.glo_ok X G (c.fact 2 (f := .glo "_law_place") rfl)
  have e_law_choice : mg "_law_choice" = some (.ref (He.ga K "_law_choice")) := He.glo_ok X G (c.fact 3 (f := .glo "_law_choice") rfl)
  have e_law_parts : mg "_law_parts" = some (.ref (He.ga K "_law_parts")) := He.glo_ok X G (c.fact 4 (f := .glo "_law_parts") rfl)
  have e_law_cell : mg "_law_cell" = some (.ref (He.ga K "_law_cell")) := He.glo_ok X G (c.fact 5 (f := .glo "_law_cell") rfl)
  have e_law_digits : mg "_law_digits" = some (.ref (He.ga K "_law_digits")) := He.glo_ok X G (c.fact 6 (f := .glo "_law_digits") rfl)
  have e_law_region : mg "_law_region" = some (.ref (He.ga K "_law_region")) := He.glo_ok X G (c.fact 7 (f := .glo "_law_region") rfl)
  have e_is_strip : mg "is_strip" = some (.ref (He.ga K "is_strip")) := He.glo_ok X G (c.fact 8 (f := .glo "is_strip") rfl)
  have e_overlap : mg "overlap" = some (.ref (He.ga K "overlap")) := He.glo_ok X G (c.fact 9 (f := .glo "overlap") rfl)
  have e_allowed : mg "allowed" = some (.ref (He.ga K "allowed")) := He.glo_ok X G (c.fact 10 (f := .glo "allowed") rfl)
  have e_law_strip : mg "_law_strip" = some (.ref (He.ga K "_law_strip")) := He.glo_ok X G (c.fact 11 (f := .glo "_law_strip") rfl)
  have e_law_meets : mg "_law_meets" = some (.ref (He.ga K "_law_meets")) := He.glo_ok X G (c.fact 12 (f := .glo "_law_meets") rfl)
  have e_law_allowed : mg "_law_allowed" = some (.ref (He.ga K "_law_allowed")) := He.glo_ok X G (c.fact 13 (f := .glo "_law_allowed") rfl)
  have e_law : mg "law" = some (.ref (He.ga K "law")) := He.glo_ok X G (c.fact 14 (f := .glo "law") rfl)
  have m_int : mg "int" = none := He.free_ok X G (c.fact 15 (f := .free "int") rfl)
  have m_len : mg "len" = none := He.free_ok X G (c.fact 16 (f := .free "len") rfl)
  have m_range : mg "range" = none := He.free_ok X G (c.fact 17 (f := .free "range") rfl)
  have m_str : mg "str" = none := He.free_ok X G (c.fact 18 (f := .free "str") rfl)
  have m_tuple : mg "tuple" = none := He.free_ok X G (c.fact 19 (f := .free "tuple") rfl)
  have m_any : mg "any" = none := He.free_ok X G (c.fact 20 (f := .free "any") rfl)
  have m_bool : mg "bool" = none := He.free_ok X G (c.fact 21 (f := .free "bool") rfl)
  have m_isinstance : mg "isinstance" = none := He.free_ok X G (c.fact 22 (f := .free "isinstance") rfl)
  have m_max : mg "max" = none := He.free_ok X G (c.fact 23 (f := .free "max") rfl)
  have m_min : mg "min" = none := He.free_ok X G (c.fact 24 (f := .free "min") rfl)
  have F_law_draw : FnD P w K mg base 1 "_law_draw" 2 G_law_draw := fn_dl U_law_draw sc_law_draw e_law_draw bb_law_draw rfl (fun cdv A outer s H E hr => d_law_draw m_int m_len hr)
  have F_law_leaf : FnD P w K mg base 2 "_law_leaf" 3 G_law_leaf := fn_dl U_law_leaf sc_law_leaf e_law_leaf bb_law_leaf rfl (fun cdv A outer s H E hr => d_law_leaf F_law_draw (by decide) m_range m_str m_tuple hr)
  have F_law_place : FnD P w K mg base 2 "_law_place" 3 G_law_place := fn_dl U_law_place sc_law_place e_law_place bb_law_place rfl (fun cdv A outer s H E hr => d_law_place F_law_draw (by decide) m_int m_len hr)
  have F_law_choice_ : ∀ n, FnD P w K mg base (n + 2) "_law_choice" 4 (G_law_choice n) := by
    intro n
    induction n with
    | zero => exact fnD_st U_law_choice e_law_choice bb_law_choice rfl
    | succ n ih =>
      rw [show n + 1 + 2 = n + 2 + 1 by omega]
      exact fn_dl U_law_choice sc_law_choice e_law_choice bb_law_choice rfl (fun cdv A outer s H E hr => d_law_choice F_law_draw (by omega) F_law_place (by omega) ih (Nat.le_refl _) m_int m_range m_tuple hr)
  have F_law_choice := F_law_choice_ 4
  have F_law_parts : FnD P w K mg base 7 "_law_parts" 3 G_law_parts := fn_dl U_law_parts sc_law_parts e_law_parts bb_law_parts rfl (fun cdv A outer s H E hr => d_law_parts F_law_draw (by decide) F_law_leaf (by decide) F_law_choice (by decide) m_range m_str m_tuple hr)
  have F_law_cell : FnD P w K mg base 1 "_law_cell" 2 G_law_cell := fn_dl U_law_cell sc_law_cell e_law_cell bb_law_cell rfl (fun cdv A outer s H E hr => d_law_cell m_len hr)
  have F_law_digits : FnD P w K mg base 2 "_law_digits" 3 G_law_digits := fn_dl U_law_digits sc_law_digits e_law_digits bb_law_digits rfl (fun cdv A outer s H E hr => d_law_digits F_law_cell (by decide) m_int m_range hr)
  have F_law_region : FnD P w K mg base 2 "_law_region" 3 G_law_region := fn_dl U_law_region sc_law_region e_law_region bb_law_region rfl (fun cdv A outer s H E hr => d_law_region F_law_draw (by decide) m_int m_len hr)
  have F_is_strip : FnD P w K mg base 1 "is_strip" 1 G_is_strip := fn_dl U_is_strip sc_is_strip e_is_strip bb_is_strip rfl (fun cdv A outer s H E hr => d_is_strip  hr)
  have F_overlap : FnD P w K mg base 1 "overlap" 2 G_overlap := fn_dl U_overlap sc_overlap e_overlap bb_overlap rfl (fun cdv A outer s H E hr => d_overlap  hr)
  have F_allowed : FnD P w K mg base 2 "allowed" 3 G_allowed := fn_dl U_allowed sc_allowed e_allowed bb_allowed rfl (fun cdv A outer s H E hr => d_allowed F_is_strip (by decide) F_overlap (by decide) m_any hr)
  have F_law_strip : FnD P w K mg base 1 "_law_strip" 1 G_law_strip := fn_dl U_law_strip sc_law_strip e_law_strip bb_law_strip rfl (fun cdv A outer s H E hr => d_law_strip  hr)
  have F_law_meets : FnD P w K mg base 1 "_law_meets" 2 G_law_meets := fn_dl U_law_meets sc_law_meets e_law_meets bb_law_meets rfl (fun cdv A outer s H E hr => d_law_meets  hr)
  have F_law_allowed : FnD P w K mg base 2 "_law_allowed" 3 G_law_allowed := fn_dl U_law_allowed sc_law_allowed e_law_allowed bb_law_allowed rfl (fun cdv A outer s H E hr => d_law_allowed F_law_strip (by decide) F_law_meets (by decide) hr)
  have F_law : FnD P w K mg base 8 "law" 1 G_law := fn_dl U_law sc_law e_law bb_law rfl (fun cdv A outer s H E hr => d_law F_law_parts (by decide) F_law_digits (by decide) F_law_draw (by decide) F_law_region (by decide) F_allowed (by decide) F_law_strip (by decide) F_law_allowed (by decide) m_bool m_isinstance m_len m_max m_min m_range m_tuple hr)
  have F2 : FnOk P w K mg base CX0 8 (He.ga K "law") fd_law ["script"] (spOf K mg 1 (fun ds S => noEx (G_law ds S))) := fn_okS U_law sc_law (fun cdv A outer s H E hr => d_law F_law_parts (by decide) F_law_digits (by decide) F_law_draw (by decide) F_law_region (by decide) F_allowed (by decide) F_law_strip (by decide) F_law_allowed (by decide) m_bool m_isinstance m_len m_max m_min m_range m_tuple hr)
  exact ⟨_, fd_law, e_law, U_law, F2⟩
def names0 : List PySem.Str := ["is_strip", "allowed", "overlap", "_law_cell", "_law_digits", "_law_draw", "_law_leaf", "_law_place", "_law_choice", "_law_parts", "_law_strip", "_law_region", "_law_meets", "_law_allowed"]
def namesD : List PySem.Str := names0
abbrev RR : PySem.W.OpenRow := PySem.W.OpenLaw.row PySem.Challenge.rw_surelyread_k20_allowed_regions
abbrev hkD : PySem.W.Hook := hookM 4 faD fnsD moreD
theorem runD (w : World) : HandSHeadRun.RunEq RR (PySem.W.view RR.prog [17]) hkD (obM 4 faD fnsD moreD) 6000 namesD w := by
  intro os
  kernel_rfl
end My

namespace My
open PySem PySem.Spec PyProof.Rows L2 DL
/-! ### what is drawn -/
def boxO (dg : List Int) (at_ : Nat) : O := .lst [.p (.list (dg.map .int)), .p (.int at_)]
def drawV (dg : List Int) (at_ : Nat) (many : Int) : Int := (match dg[at_]? with | some d => d | none => (at_ : Int) * 7 + 3) % many
theorem drawV_lt {dg : List Int} {at_ : Nat} {many : Int} (h : 0 < many) : 0 ≤ drawV dg at_ many ∧ drawV dg at_ many < many := by
  unfold drawV
  exact ⟨Int.emod_nonneg _ (by omega), Int.emod_lt_of_pos _ h⟩
theorem clS_nil {k : Nat} : ClS k [] := fun _ h => by cases h
theorem clS_set {k n : Nat} {S : Sto} {o : O} (h : ClS k S) (ho : ClO k o) : ClS k (S.set n o) := fun x hx => by
  rcases List.mem_or_eq_of_mem_set hx with h' | rfl
  · exact h x h'
  · exact ho
theorem clS_app {k : Nat} {S T : Sto} (h : ClS k S) (h2 : ClS k T) : ClS k (S ++ T) := fun x hx => by
  rcases List.mem_append.mp hx with h' | h'
  · exact h x h'
  · exact h2 x h'
theorem clS_one {k : Nat} {o : O} (h : ClO k o) : ClS k [o] := fun x hx => by
  rw [List.mem_singleton.mp hx]
  exact h
theorem clO_box {k : Nat} {dg : List Int} {at_ : Nat} : ClO k (boxO dg at_) := fun d hd => by
  simp at hd
  rcases hd with rfl | rfl <;> trivial
theorem clO_p {k : Nat} {l : List PyData} : ClO k (.lst (l.map .p)) := fun d hd => by
  obtain ⟨p, _, rfl⟩ := List.mem_map.mp hd
  trivial
theorem clD_mono {k k' : Nat} {d : D} (hk : k ≤ k') (q : ClD k d) : ClD k' d := by
  cases d with
  | ob n => exact Nat.lt_of_lt_of_le q hk
  | _ => trivial
theorem clS_mono {k k' : Nat} {S : Sto} (hk : k ≤ k') (h : ClS k S) : ClS k' S := by
  intro o ho
  have q := h o ho
  cases o with
  | lst l => exact fun d hd => clD_mono hk (q d hd)
  | fz l => trivial
  | dic l => exact fun d hd => clD_mono hk (q d hd)
theorem draw_ok {S : Sto} {n : Nat} {dg : List Int} {at_ : Nat} {many : Int} (hs : S[n]? = some (boxO dg at_)) (hm : 0 < many) (hc : ClS 0 S) :
    G_law_draw [.ob n, .int many] S = .ok (.int (drawV dg at_ many)) (S.set n (boxO dg (at_ + 1))) := by
  have hl : n < S.length := (List.getElem?_eq_some_iff.mp hs).1
  refine gB_rt (T := []) ?_ (by simp) (clS_set (clS_mono (Nat.zero_le _) hc) clO_box)
  rw [List.append_nil]
  by_cases h : at_ < dg.length
  · have e : dg[at_]? = some dg[at_] := List.getElem?_eq_getElem h
    simp [B_law_draw, start0, hs, boxO, List.getElem?_set_self hl, drawV, h, e, hm]
  · have e : dg[at_]? = none := List.getElem?_eq_none (by omega)
    simp [B_law_draw, start0, hs, boxO, List.getElem?_set_self hl, drawV, h, e, hm]
theorem cell_ok {S : Sto} {ns : List Int} {k : Nat} (hc : ClS 0 S) : ∃ c : Int, G_law_cell [.scr ns, .int k] S = .ok (.int c) S := by
  by_cases h : k < ns.length
  · have e : ns[k]? = some ns[k] := List.getElem?_eq_getElem h
    refine ⟨ns[k], gB_rt (T := []) ?_ rfl (clS_mono (Nat.zero_le _) hc)⟩
    simp [B_law_cell, start0, h, e]
  · refine ⟨0, gB_rt (T := []) ?_ rfl (clS_mono (Nat.zero_le _) hc)⟩
    simp [B_law_cell, start0, h]
end My

namespace My
open PySem PySem.Spec PyProof.Rows L2 DL
/-! ### the digits of a script -/
noncomputable def d60 : SD := (sIf (asB (eBin gGt (eVar 5) (eC (.int 0)))) (sSeq (sExpr (eMth gApp (eVar 3) (aCons (eBin gMod (eB gToInt (aCons (eVar 5) (aNil))) (eC (.int 1000))) (aNil)))) (sSet 5 (eBin gFdv (eVar 5) (eC (.int 1000))))) (sNil))
noncomputable def d12 : SD := (sSeq (sSet 7 (eBin gMod (eB gToInt (aCons (eBin gAdd (eBin gAdd (eBin gMul (eVar 7) (eC (.int 16807))) (eBin gMul (eC (.int 7)) (eVar 6))) (eC (.int 1))) (aNil))) (eC (.int 2147483647)))) (sExpr (eMth gApp (eVar 3) (aCons (eBin gMod (eB gToInt (aCons (eBin gFdv (eVar 7) (eC (.int 997))) (aNil))) (eC (.int 1000))) (aNil)))))
noncomputable def dgBody (g_law_cell : FD) : SD := (sSeq (sSet 5 (eCall 2 g_law_cell (aCons (eVar 0) (aCons (eVar 4) (aNil))))) (sSeq (sIf (asB (eBin gLt (eVar 5) (eC (.int 0)))) (sSet 5 (eBin gSub (eC (.int 1)) (eBin gMul (eC (.int 2)) (eVar 5)))) (sNil)) (sIf (asB (eBin gGe (eVar 5) (eBin gPow (eC (.int 10)) (eC (.int 18))))) (sFor (iRgA (aCons (eC (.int 60)) (aNil))) (gNm 6) d60) (sSeq (sSet 7 (eBin gMod (eB gToInt (aCons (eBin gAdd (eBin gAdd (eBin gMul (eVar 5) (eC (.int 48271))) (eBin gMul (eVar 4) (eC (.int 69621)))) (eC (.int 11))) (aNil))) (eC (.int 2147483647)))) (sFor (iRgA (aCons (eC (.int 12)) (aNil))) (gNm 6) d12)))))
theorem B_digits_eq (g_law_cell : FD) : B_law_digits g_law_cell = sSeq (sSet 3 (eLstO (aNil))) (sSeq (sFor (iRgB (aCons (eVar 1) (aCons (eVar 2) (aNil)))) (gNm 4) (dgBody g_law_cell)) (sRetR (eVar 3))) := rfl
abbrev dgL (dg : List Int) : O := .lst (dg.map fun d => D.p (.int d))
section
variable {S : Sto} {dg : List Int}
theorem dgL_at : (S ++ [dgL dg])[S.length]? = some (dgL dg) := by simp
theorem dgL_set {b : O} : (S ++ [dgL dg]).set S.length b = S ++ [b] := by simp
theorem dgL_app {d : Int} : O.lst ((dg.map fun d => D.p (.int d)) ++ [D.p (.int d)]) = dgL (dg ++ [d]) := by simp [dgL]
theorem d60_ok {v0 v1 v2 v4 v6 v7 : Option D} {c : Int} (hl : dg.length < 1000000) : ∃ (dg' : List Int) (c' : Int), dg'.length ≤ dg.length + 1 ∧
    d60 [v0, v1, v2, some (.ob S.length), v4, some (.int c), v6, v7] (S ++ [dgL dg]) = .nx [v0, v1, v2, some (.ob S.length), v4, some (.int c'), v6, v7] (S ++ [dgL dg']) := by
  by_cases h : 0 < c
  · refine ⟨dg ++ [c % 1000], c / 1000, by simp, ?_⟩
    have h2 : dg.length < 16777216 := by omega
    simp [d60, h, dgL_at, h2]
  · refine ⟨dg, c, by omega, ?_⟩
    simp [d60, h]
theorem d12_ok {v0 v1 v2 v4 v5 : Option D} {t s : Int} (hl : dg.length < 1000000) : ∃ (dg' : List Int) (s' : Int), dg'.length ≤ dg.length + 1 ∧
    d12 [v0, v1, v2, some (.ob S.length), v4, v5, some (.int t), some (.int s)] (S ++ [dgL dg]) = .nx [v0, v1, v2, some (.ob S.length), v4, v5, some (.int t), some (.int s')] (S ++ [dgL dg']) := by
  have h2 : dg.length < 16777216 := by omega
  exact ⟨dg ++ [(s * 16807 + 7 * t + 1) % 2147483647 / 997 % 1000], (s * 16807 + 7 * t + 1) % 2147483647, by simp, by simp [d12, dgL_at, h2]⟩
theorem d60_all {v0 v1 v2 v4 v6 v7 : Option D} {c : Int} {n : Nat} (hl : dg.length + n < 1000000) : ∃ (dg' : List Int) (v5' v6' : Option D), dg'.length ≤ dg.length + n ∧
    forL (gNm 6) d60 (fun _ => True) (rngL 0 n) [v0, v1, v2, some (.ob S.length), v4, some (.int c), v6, v7] (S ++ [dgL dg]) = .nx [v0, v1, v2, some (.ob S.length), v4, v5', v6', v7] (S ++ [dgL dg']) := by
  obtain ⟨ρ', S', e, dg', c', v6', hl', rfl, rfl⟩ := forL_inv (g := gNm 6) (chk := fun _ => True) (body := d60)
    (fun i ρ S' => ∃ (dg' : List Int) (c' : Int) (v6' : Option D), dg'.length ≤ dg.length + i ∧ S' = S ++ [dgL dg'] ∧ ρ = [v0, v1, v2, some (.ob S.length), v4, some (.int c'), v6', v7]) (rngL 0 n) 0 [v0, v1, v2, some (.ob S.length), v4, some (.int c), v6, v7] (S ++ [dgL dg])
    (fun i d ρ S' hd hI => by
      obtain ⟨hi, rfl⟩ := rngL_get hd
      obtain ⟨dg', c', v6', hl', rfl, rfl⟩ := hI
      obtain ⟨dg2, c2, hl2, e2⟩ := d60_ok (S := S) (dg := dg') (v0 := v0) (v1 := v1) (v2 := v2) (v4 := v4) (v6 := some (.int (0 + i))) (v7 := v7) (c := c') (by omega)
      exact ⟨_, _, rfl, _, _, .inl e2, trivial, dg2, c2, _, by omega, rfl, rfl⟩) ⟨dg, c, v6, by omega, rfl, rfl⟩
  simp only [rngL_length, Nat.zero_add] at hl'
  exact ⟨dg', _, _, hl', e⟩
theorem d12_all {v0 v1 v2 v4 v5 v6 : Option D} {s : Int} {n : Nat} (hl : dg.length + n < 1000000) : ∃ (dg' : List Int) (v6' v7' : Option D), dg'.length ≤ dg.length + n ∧
    forL (gNm 6) d12 (fun _ => True) (rngL 0 n) [v0, v1, v2, some (.ob S.length), v4, v5, v6, some (.int s)] (S ++ [dgL dg]) = .nx [v0, v1, v2, some (.ob S.length), v4, v5, v6', v7'] (S ++ [dgL dg']) := by
  obtain ⟨ρ', S', e, dg', s', v6', hl', rfl, rfl⟩ := forL_inv (g := gNm 6) (chk := fun _ => True) (body := d12)
    (fun i ρ S' => ∃ (dg' : List Int) (s' : Int) (v6' : Option D), dg'.length ≤ dg.length + i ∧ S' = S ++ [dgL dg'] ∧ ρ = [v0, v1, v2, some (.ob S.length), v4, v5, v6', some (.int s')]) (rngL 0 n) 0 [v0, v1, v2, some (.ob S.length), v4, v5, v6, some (.int s)] (S ++ [dgL dg])
    (fun i d ρ S' hd hI => by
      obtain ⟨hi, rfl⟩ := rngL_get hd
      obtain ⟨dg', s', v6', hl', rfl, rfl⟩ := hI
      obtain ⟨dg2, s2, hl2, e2⟩ := d12_ok (S := S) (dg := dg') (v0 := v0) (v1 := v1) (v2 := v2) (v4 := v4) (v5 := v5) (t := 0 + i) (s := s') (by omega)
      exact ⟨_, _, rfl, _, _, .inl e2, trivial, dg2, s2, _, by omega, rfl, rfl⟩) ⟨dg, s, v6, by omega, rfl, rfl⟩
  simp only [rngL_length, Nat.zero_add] at hl'
  exact ⟨dg', _, _, hl', e⟩
theorem big62_60 : big62 60 = true := big62_of (by decide) (by decide)
theorem big62_12 : big62 12 = true := big62_of (by decide) (by decide)
theorem dgBody_ok {ns : List Int} {v1 v2 v5 v6 v7 : Option D} {k : Nat} (hc : ClS 0 S) (hl : dg.length + 60 < 1000000) : ∃ (dg' : List Int) (w5 w6 w7 : Option D), dg'.length ≤ dg.length + 60 ∧
    dgBody G_law_cell [some (.scr ns), v1, v2, some (.ob S.length), some (.int k), v5, v6, v7] (S ++ [dgL dg]) = .nx [some (.scr ns), v1, v2, some (.ob S.length), some (.int k), w5, w6, w7] (S ++ [dgL dg']) := by
  obtain ⟨c, ec⟩ := cell_ok (ns := ns) (k := k) (S := S ++ [dgL dg]) (clS_app hc (clS_one (by unfold dgL; rw [show (dg.map fun d => D.p (.int d)) = (dg.map PyData.int).map .p by simp]; exact clO_p)))
  have step : ∀ c' : Int, ∃ (dg' : List Int) (w5 w6 w7 : Option D), dg'.length ≤ dg.length + 60 ∧
      sIf (asB (eBin gGe (eVar 5) (eBin gPow (eC (.int 10)) (eC (.int 18))))) (sFor (iRgA (aCons (eC (.int 60)) (aNil))) (gNm 6) d60) (sSeq (sSet 7 (eBin gMod (eB gToInt (aCons (eBin gAdd (eBin gAdd (eBin gMul (eVar 5) (eC (.int 48271))) (eBin gMul (eVar 4) (eC (.int 69621)))) (eC (.int 11))) (aNil))) (eC (.int 2147483647)))) (sFor (iRgA (aCons (eC (.int 12)) (aNil))) (gNm 6) d12))
        [some (.scr ns), v1, v2, some (.ob S.length), some (.int k), some (.int c'), v6, v7] (S ++ [dgL dg]) = .nx [some (.scr ns), v1, v2, some (.ob S.length), some (.int k), w5, w6, w7] (S ++ [dgL dg']) := by
    intro c'
    by_cases h : (1000000000000000000 : Int) ≤ c'
    · obtain ⟨dg', w5, w6, l, e⟩ := d60_all (S := S) (dg := dg) (v0 := some (.scr ns)) (v1 := v1) (v2 := v2) (v4 := some (.int k)) (v6 := v6) (v7 := v7) (c := c') (n := 60) (by omega)
      exact ⟨dg', w5, w6, v7, l, by simp [h, big62_60, e]⟩
    · obtain ⟨dg', w6, w7, l, e⟩ := d12_all (S := S) (dg := dg) (v0 := some (.scr ns)) (v1 := v1) (v2 := v2) (v4 := some (.int k)) (v5 := some (.int c')) (v6 := v6) (s := (c' * 48271 + k * 69621 + 11) % 2147483647) (n := 12) (by omega)
      exact ⟨dg', some (.int c'), w6, w7, by omega, by simp [h, big62_12, e]⟩
  by_cases h : c < 0
  · obtain ⟨dg', w5, w6, w7, l, e⟩ := step (1 - 2 * c)
    refine ⟨dg', w5, w6, w7, l, ?_⟩
    rw [← e]
    unfold dgBody
    simp [ec, h]
  · obtain ⟨dg', w5, w6, w7, l, e⟩ := step c
    refine ⟨dg', w5, w6, w7, l, ?_⟩
    rw [← e]
    unfold dgBody
    simp [ec, h]
end
end My

namespace My
open PySem PySem.Spec PyProof.Rows L2 DL
section
variable {S : Sto} {dg : List Int}
theorem pAll_ints : pAll (dg.map fun d => D.p (.int d)) = some (dg.map .int) := by
  rw [show (dg.map fun d => D.p (.int d)) = (dg.map PyData.int).map .p by simp]
  exact pAll_map _
theorem restD_dgL : restD (.ob S.length) (S ++ [dgL dg]) = some (.list (dg.map .int), S ++ [.fz (dg.map .int)]) := by
  show (match (S ++ [dgL dg])[S.length]? with
    | some (.lst l) => (pAll l).map fun l' => (PyData.list l', (S ++ [dgL dg]).set S.length (.fz l'))
    | some (.fz l) => some (.list l, S ++ [dgL dg])
    | _ => none) = _
  rw [dgL_at]
  show (pAll (dg.map fun d => D.p (.int d))).map _ = _
  rw [pAll_ints, Option.map_some, dgL_set]
theorem digits_ok {ns : List Int} {lo hi : Nat} (hc : ClS 0 S) (hh : hi ≤ 1000) (hlo : lo ≤ hi) : ∃ dg : List Int, G_law_digits [.scr ns, .int lo, .int hi] S = .ok (.lst (dg.map .int)) S := by
  obtain ⟨ρ', S', e, dg, v5, v6, v7, v4, hl, rfl, rfl⟩ := forL_inv (g := gNm 4) (chk := fun _ => True) (body := dgBody G_law_cell)
    (fun i ρ S' => ∃ (dg : List Int) (v5 v6 v7 v4 : Option D), dg.length ≤ 60 * i ∧ S' = S ++ [dgL dg] ∧ ρ = [some (.scr ns), some (.int lo), some (.int hi), some (.ob S.length), v4, v5, v6, v7]) (rngL lo (hi - lo)) 0 [some (.scr ns), some (.int lo), some (.int hi), some (.ob S.length), none, none, none, none] (S ++ [dgL []])
    (fun i d ρ S' hd hI => by
      obtain ⟨hi', rfl⟩ := rngL_get hd
      obtain ⟨dg, v5, v6, v7, v4, hl, rfl, rfl⟩ := hI
      obtain ⟨dg2, w5, w6, w7, hl2, e2⟩ := dgBody_ok (S := S) (dg := dg) (ns := ns) (v1 := some (.int lo)) (v2 := some (.int hi)) (v5 := v5) (v6 := v6) (v7 := v7) (k := lo + i) hc (by omega)
      rw [Int.natCast_add] at e2
      exact ⟨_, _, gNm_ap, _, _, .inl e2, trivial, dg2, w5, w6, w7, _, by omega, rfl, rfl⟩) ⟨[], none, none, none, none, by simp, rfl, rfl⟩
  have hb : big62 (lo : Int) = true ∧ big62 (hi : Int) = true := ⟨big62_nat (by omega), big62_nat (by omega)⟩
  have hn : ((hi : Int) - lo).toNat = hi - lo := by omega
  refine ⟨dg, gB_rt (T := [.fz (dg.map .int)]) ?_ rfl (clS_mono (Nat.zero_le _) hc)⟩
  rw [B_digits_eq]
  have e0 : start0 NN_law_digits [.scr ns, .int lo, .int hi] = [some (.scr ns), some (.int lo), some (.int hi), none, none, none, none, none] := rfl
  rw [e0]
  rw [sSeq_ap, sSet_ap, eLstO_ap, aNil_ap]
  simp only [Rs.bind_ok, liftS_ok, seqO_nx, List.length_nil, Nat.zero_le, if_true, List.set_cons_succ, List.set_cons_zero]
  rw [sSeq_ap, sFor_ap, iRgB_ap]
  simp only [aCons_ap, aNil_ap, eVar_ap, List.getElem?_cons_succ, List.getElem?_cons_zero, Option.join_some, oRs_some, Rs.bind_ok, liftS_ok, hb, hn, and_self, if_true]
  rw [show O.lst [] = dgL [] from rfl, e]
  simp only [seqO_nx, sRetR_ap, eVar_ap, List.getElem?_cons_succ, List.getElem?_cons_zero, Option.join_some, oRs_some, liftS_ok, restD_dgL, rtO_some]
end
end My

namespace My
open PySem PySem.Spec PyProof.Rows L2 DL
/-! ### drawn numbers, texts -/
def IsBox (b : O) : Prop := ∃ dg at_, b = boxO dg at_
theorem IsBox.cl {b : O} {k : Nat} (h : IsBox b) : ClO k b := by
  obtain ⟨dg, at_, rfl⟩ := h
  exact clO_box
section
variable {S : Sto} {n : Nat} {b : O} {Q : D → Sto → Prop} {E : Xc → Sto → Prop}
theorem draw_wp {many : Int} (hs : S[n]? = some b) (hb : IsBox b) (hm : 0 < many) (hc : ClS 0 S) (h : ∀ v b', 0 ≤ v → v < many → IsBox b' → Q (.int v) (S.set n b')) : WE (G_law_draw [.ob n, .int many] S) Q E := by
  obtain ⟨dg, at_, rfl⟩ := hb
  obtain ⟨k1, k2⟩ := drawV_lt (dg := dg) (at_ := at_) hm
  exact WE_of (draw_ok hs hm hc) (h _ _ k1 k2 ⟨_, _, rfl⟩)
theorem digits_wp {ns : List Int} {lo hi : Nat} (hc : ClS 0 S) (hh : hi ≤ 1000) (hlo : lo ≤ hi) (h : ∀ dg : List Int, Q (.lst (dg.map .int)) S) : WE (G_law_digits [.scr ns, .int lo, .int hi] S) Q E := by
  obtain ⟨dg, e⟩ := digits_ok (ns := ns) hc hh hlo
  exact WE_of e (h dg)
theorem set_get (hl : n < S.length) {o : O} : (S.set n o)[n]? = some o := List.getElem?_set_self hl
theorem toStr_len {k : Nat} (hk : k < 1000) : (Str.ofString (toString (k : Int))).length ≤ 4 := by
  have e := int_text_length_le10 (a := (k : Int)) (k := 3) (by decide) (by simpa using hk)
  rw [PySem.ofString_length]; exact e
theorem toStr_log {k : Nat} (hk : k < 1000) : ((k : Int).natAbs).log2 < 1920 := by
  have := Nat.log2_le_self k
  simp only [Int.natAbs_natCast]
  omega
/-! ### texts -/
abbrev sx (l : List Nat) : Str := SX.S l
@[simp] theorem sx_len (l : List Nat) : (sx l).length = l.length := by show l.toArray.size = _; simp
@[simp] theorem sx_tl (l : List Nat) : (sx l).cps.toList = l := by simp [SX.S]
theorem joinL_nil : ∀ l : List Nat, TL.joinL [] (l.map fun c => [c]) = l
  | [] => rfl
  | [c] => rfl
  | c :: c2 :: r => by
    show [c] ++ ([] ++ TL.joinL [] ((c2 :: r).map fun c => [c])) = _
    rw [joinL_nil (c2 :: r)]
    rfl
theorem join_chars (l : List Nat) : Txt.join (sx []) (l.map fun c => sx [c]) = sx l := by
  have := SX.join_S [] (l.map fun c => [c])
  rw [List.map_map, joinL_nil] at this
  exact this
theorem strsP_map (l : List Str) : strsP (l.map PyData.str) = some l := by
  induction l with
  | nil => rfl
  | cons x l ih => simp [strsP, ih]
theorem lens_one (l : List Nat) : ((l.map fun c => sx [c]).map (·.length)).sum = l.length := by
  induction l with
  | nil => rfl
  | cons c l ih =>
    rw [List.map_cons, List.map_cons, List.sum_cons, ih, List.length_cons]
    simp
    omega
theorem dotS : (Str.ofString ".#").cps.toList = [46, 35] := by decide +kernel
theorem dotL : (Str.ofString ".#").length = 2 := by decide +kernel
theorem emptyS : Str.ofString "" = sx [] := by decide +kernel
def pixL (cs : List Nat) : Prop := ∀ c ∈ cs, c = 46 ∨ c = 35
abbrev rD (rows : List (List Nat)) : List PyData := rows.map fun r => .str (sx r)
abbrev imgD (rows : List (List Nat)) : PyData := .tuple (rD rows)
def imgOk (wide high : Nat) (rows : List (List Nat)) : Prop := rows.length = high ∧ ∀ r ∈ rows, r.length = wide ∧ pixL r
theorem seqP_lst {S : Sto} {l : List PyData} : seqP S (.p (.list l)) = some l := by
  show vList S (.p (.list l)) = some l
  unfold vList
  simp [lItems, pAll_map]
/-- the join of pixels -/
theorem join_wp {cs : List Nat} {f : ED} {ρ : DL.Env} {S1 S2 : Sto} (e : f ρ S1 = .ok (.lst (cs.map fun c => PyData.str (sx [c]))) S2) (hl : cs.length < 1000000) (q : Q (.str (sx cs)) S2) : WE (eJoin (eC (.str "")) f ρ S1) Q E := by
  refine WE_of (a := .str (sx cs)) (S := S2) ?_ q
  unfold eJoin
  rw [eC_ap, Rs.bind_ok]
  simp only [e, Rs.bind_ok]
  have sp : seqP S2 (.lst (cs.map fun c => PyData.str (sx [c]))) = some ((cs.map fun c => sx [c]).map PyData.str) := by
    rw [seqP_lst, List.map_map]
    rfl
  rw [sp]
  simp only [strsP_map]
  rw [emptyS, join_chars, lens_one, if_pos]
  simp
  omega
theorem join_lc {f : ED} {ρ : DL.Env} {S1 : Sto} (h : WE (f ρ S1) (fun d S2 => ∃ cs : List Nat, cs.length < 1000000 ∧ d = .lst (cs.map fun c => PyData.str (sx [c])) ∧ Q (.str (sx cs)) S2) (fun _ _ => False)) : WE (eJoin (eC (.str "")) f ρ S1) Q E := by
  obtain ⟨d, S2, e, cs, hl, rfl, q⟩ := WE_get h
  exact join_wp e hl q
end
end My

namespace My
open PySem PySem.Spec PyProof.Rows L2 DL
/-! ### grammars as the laws draw them -/
inductive Ex where
  | pl (p lo hi c : Nat)
  | sq (a b : Ex)
  | ch (a b : Ex)
  | an (a : Ex)
  | so (a : Ex)
  | mb (a : Ex)
def Ex.py : Ex → PyData
  | .pl p lo hi c => .tuple [.str "place", .int p, .int lo, .int hi, .int c]
  | .sq a b => .tuple [.str "sequence", .tuple [a.py, b.py]]
  | .ch a b => .tuple [.str "choice", .tuple [a.py, b.py]]
  | .an a => .tuple [.str "any", a.py]
  | .so a => .tuple [.str "some", a.py]
  | .mb a => .tuple [.str "maybe", a.py]
/-- places of n parts at most, so deep at most -/
def Ex.ok (n : Nat) : Nat → Ex → Prop
  | _, .pl p lo hi c => p < n ∧ 1 ≤ lo ∧ lo ≤ hi ∧ hi ≤ 16 ∧ c < 3
  | d + 1, .sq a b => a.ok n d ∧ b.ok n d
  | d + 1, .ch a b => a.ok n d ∧ b.ok n d
  | d + 1, .an a => a.ok n d
  | d + 1, .so a => a.ok n d
  | d + 1, .mb a => a.ok n d
  | _, _ => False
inductive Pt where
  | plain (nm lab : Str) (c : Nat) (k : Bool)
  | shape (nm lab : Str) (c w h : Nat) (rows : List (List Nat))
  | strip (ac : Bool) (nm j : Str) (e : Ex)
def dirS (ac : Bool) : Str := if ac = true then "across" else "down"
def Pt.py : Pt → PyData
  | .plain nm lab c k => .tuple [.str "plain", .str nm, .str lab, .int c, .bool k]
  | .shape nm lab c w h rows => .tuple [.str "shape", .str nm, .str lab, .int c, imgD rows]
  | .strip ac nm j e => .tuple [.str (dirS ac), .str nm, .str j, e.py]
def Pt.leaf (wide : Nat) : Pt → Prop
  | .plain _ _ c _ => c < 4
  | .shape _ _ c w h rows => c < 4 ∧ imgOk w h rows ∧ 1 ≤ w ∧ w ≤ wide ∧ 1 ≤ h ∧ h ≤ wide
  | .strip _ _ _ _ => False
abbrev rL (rows : List (List Nat)) : O := .lst ((rD rows).map .p)
section
variable {S : Sto} {n : Nat} {b : O} {Q : D → Sto → Prop} {E : Xc → Sto → Prop}
theorem get_set (hl : n < S.length) {o : O} {T : Sto} : (S.set n o ++ T)[n]? = some o := by
  rw [List.getElem?_append_left (by simpa using hl), List.getElem?_set_self hl]
theorem set_app (hl : n < S.length) {o o' : O} {T : Sto} : (S.set n o ++ T).set n o' = S.set n o' ++ T := by
  rw [List.set_append_left _ _ (by simpa using hl), List.set_set]
theorem self_set (hs : S[n]? = some b) : S = S.set n b := by
  have hl : n < S.length := (List.getElem?_eq_some_iff.mp hs).1
  apply List.ext_getElem?
  intro i
  by_cases hi : n = i
  · subst hi
    rw [List.getElem?_set_self hl, hs]
  · rw [List.getElem?_set_ne hi]
/-- the row of one line of pixels -/
theorem pixrow_wp {w i j : Nat} {ρ : DL.Env} {T : Sto} (hl : n < S.length) (hb : IsBox b) (hc : ClS 0 S) (hcT : ClS 0 T) (hw : w < 1000) (h0 : (wipeE ρ [j])[0]? = some (some (.ob n))) (hi : ρ[i]? = some (some (.int w))) (hj : 0 < j)
    (q : ∀ b' cs, IsBox b' → cs.length = w → pixL cs → Q (.str (sx cs)) (S.set n b' ++ T)) :
    WE (eJoin (eC (.str "")) (eLc (iRgA (aCons (eVar i) aNil)) (gNm j) bYes (eBin gIx (eC (.str ".#")) (eCall 2 G_law_draw (aCons (eVar 0) (aCons (eC (.int 2)) aNil)))) [j]) ρ (S.set n b ++ T)) Q E := by
  refine join_lc ?_
  have bw : big62 (w : Int) = true := big62_nat (by omega)
  simp -implicitDefEqProofs only [WE_ok, WE_bind, WE_ite, WE_no, WS_nx, WS_rt, WS_bk, WS_ct, WS_lift, WS_seq, WS_ite, oRs_some, eVar_ap, eC_ap, eBin_ap, isB_bl, asB_ap, bAnd_ap, bOr_ap, bNot_ap, bTru_ap, eAnd_wp, eOr_wp, eNot_wp, andR_bl, orR_bl, notR_bl, decide_eq_true_eq, gAny_lst, gAll_lst, gSum_lst, chkOf_p, lItems_lst, eNeg_ap, eIf_ap, aNil_ap, aCons_ap, eTup_ap, eLst_ap, eLstO_ap, eB_ap, eCall_ap, eMth_ap, eIsi_ap, eSl_ap, oNone_ap, oSome_ap, eLc_ap, sSeq_ap, sNil_ap, sBrk_ap, sCnt_ap, sExpr_ap, rtO_some, sRetR_ap, sRetN_ap, sIf_ap, sSet_ap, nxG_ok, sAsg_ap, sAug_ap, gNm_ap, sFor_ap, iRgA_ap, iRgB_ap, iTpl_ap, iLst_ap, restD_p', restAll_nil, restAll_cons, gAdd_int, gAdd_str, gAdd_tup, gAdd_lst, gAddI_int, gSub_int, gMul_int, gMod_int, gFdv_int, gPow_int, gLt_int, gLe_int, gGt_int, gGe_int, gEq_int, gEq_str, gEq_bl, atI_nat', atI_0, atI_1, atI_2, atI_3, atI_4, atI_5, gIx_tup, gIx_lst, gIx_scr, gIx_ob, obL_lst, obL_fz, gLen_tup, gLen_lst, gLen_scr, gLen_ob, gToInt_int, gToInt_bl, gToStr_int, truD_bl, gMin2_int, gMax2_int, isLst_ob, isLst_lst, obO_lst, oLst_ob, appO_some, gApp_ap, gSetL_ap, okE_some, setL_ob, ixN_0, ixN_1, sizeLine_val, rngL_length, List.set_cons_zero, List.set_cons_succ, List.getElem?_cons_zero, List.getElem?_cons_succ, Option.join_some, Option.map_some, Option.bind_some, List.length_cons, List.length_nil, Option.isSome_some, if_true, if_false, Bool.false_eq_true, Bool.false_xor, Bool.true_xor, and_self, Nat.reduceAdd, Nat.reduceLeDiff, reduceIte, List.append_nil, Bool.not_true, Bool.not_false, bYes_ap, gIsN_ap, isNoneD_int, isNoneD_none, Bool.not_not, hi, bw, Int.toNat_natCast]
  refine WE_lc (fun k acc S' => ∃ b' cs, IsBox b' ∧ cs.length = k ∧ pixL cs ∧ acc = cs.map (fun c => PyData.str (sx [c])) ∧ S' = S.set n b' ++ T) _ 0 _ _ ⟨b, [], hb, rfl, (fun _ z => by cases z), rfl, rfl⟩ ?_ ?_
  · rintro k d acc S' hd ⟨b2, cs, hb2, hlen, hp, rfl, rfl⟩
    obtain ⟨hk, rfl⟩ := rngL_get hd
    have h00 : ((wipeE ρ [j]).set j (some (.int (0 + (k : Int)))))[0]? = some (some (.ob n)) := by
      rw [List.getElem?_set_ne (by omega)]; exact h0
    simp -implicitDefEqProofs only [WE_ok, WE_bind, WE_ite, WE_no, WS_nx, WS_rt, WS_bk, WS_ct, WS_lift, WS_seq, WS_ite, oRs_some, eVar_ap, eC_ap, eBin_ap, isB_bl, asB_ap, bAnd_ap, bOr_ap, bNot_ap, bTru_ap, eAnd_wp, eOr_wp, eNot_wp, andR_bl, orR_bl, notR_bl, decide_eq_true_eq, gAny_lst, gAll_lst, gSum_lst, chkOf_p, lItems_lst, eNeg_ap, eIf_ap, aNil_ap, aCons_ap, eTup_ap, eLst_ap, eLstO_ap, eB_ap, eCall_ap, eMth_ap, eIsi_ap, eSl_ap, oNone_ap, oSome_ap, eLc_ap, sSeq_ap, sNil_ap, sBrk_ap, sCnt_ap, sExpr_ap, rtO_some, sRetR_ap, sRetN_ap, sIf_ap, sSet_ap, nxG_ok, sAsg_ap, sAug_ap, gNm_ap, sFor_ap, iRgA_ap, iRgB_ap, iTpl_ap, iLst_ap, restD_p', restAll_nil, restAll_cons, gAdd_int, gAdd_str, gAdd_tup, gAdd_lst, gAddI_int, gSub_int, gMul_int, gMod_int, gFdv_int, gPow_int, gLt_int, gLe_int, gGt_int, gGe_int, gEq_int, gEq_str, gEq_bl, atI_nat', atI_0, atI_1, atI_2, atI_3, atI_4, atI_5, gIx_tup, gIx_lst, gIx_scr, gIx_ob, obL_lst, obL_fz, gLen_tup, gLen_lst, gLen_scr, gLen_ob, gToInt_int, gToInt_bl, gToStr_int, truD_bl, gMin2_int, gMax2_int, isLst_ob, isLst_lst, obO_lst, oLst_ob, appO_some, gApp_ap, gSetL_ap, okE_some, setL_ob, ixN_0, ixN_1, sizeLine_val, rngL_length, List.set_cons_zero, List.set_cons_succ, List.getElem?_cons_zero, List.getElem?_cons_succ, Option.join_some, Option.map_some, Option.bind_some, List.length_cons, List.length_nil, Option.isSome_some, if_true, if_false, Bool.false_eq_true, Bool.false_xor, Bool.true_xor, and_self, Nat.reduceAdd, Nat.reduceLeDiff, reduceIte, List.append_nil, Bool.not_true, Bool.not_false, bYes_ap, gIsN_ap, isNoneD_int, isNoneD_none, Bool.not_not, h00]
    refine draw_wp (get_set hl) hb2 (by decide) (clS_app (clS_set hc hb2.cl) hcT) fun v b3 hv0 hv1 hb3 => ?_
    rw [set_app hl]
    have h2 : v = 0 ∨ v = 1 := by omega
    have hL : cs.length < 16777216 := by omega
    rcases h2 with rfl | rfl
    · simp -implicitDefEqProofs only [WE_ok, WE_bind, WE_ite, WE_no, WS_nx, WS_rt, WS_bk, WS_ct, WS_lift, WS_seq, WS_ite, oRs_some, eVar_ap, eC_ap, eBin_ap, isB_bl, asB_ap, bAnd_ap, bOr_ap, bNot_ap, bTru_ap, eAnd_wp, eOr_wp, eNot_wp, andR_bl, orR_bl, notR_bl, decide_eq_true_eq, gAny_lst, gAll_lst, gSum_lst, chkOf_p, lItems_lst, eNeg_ap, eIf_ap, aNil_ap, aCons_ap, eTup_ap, eLst_ap, eLstO_ap, eB_ap, eCall_ap, eMth_ap, eIsi_ap, eSl_ap, oNone_ap, oSome_ap, eLc_ap, sSeq_ap, sNil_ap, sBrk_ap, sCnt_ap, sExpr_ap, rtO_some, sRetR_ap, sRetN_ap, sIf_ap, sSet_ap, nxG_ok, sAsg_ap, sAug_ap, gNm_ap, sFor_ap, iRgA_ap, iRgB_ap, iTpl_ap, iLst_ap, restD_p', restAll_nil, restAll_cons, gAdd_int, gAdd_str, gAdd_tup, gAdd_lst, gAddI_int, gSub_int, gMul_int, gMod_int, gFdv_int, gPow_int, gLt_int, gLe_int, gGt_int, gGe_int, gEq_int, gEq_str, gEq_bl, atI_nat', atI_0, atI_1, atI_2, atI_3, atI_4, atI_5, gIx_tup, gIx_lst, gIx_scr, gIx_ob, obL_lst, obL_fz, gLen_tup, gLen_lst, gLen_scr, gLen_ob, gToInt_int, gToInt_bl, gToStr_int, truD_bl, gMin2_int, gMax2_int, isLst_ob, isLst_lst, obO_lst, oLst_ob, appO_some, gApp_ap, gSetL_ap, okE_some, setL_ob, ixN_0, ixN_1, sizeLine_val, rngL_length, List.set_cons_zero, List.set_cons_succ, List.getElem?_cons_zero, List.getElem?_cons_succ, Option.join_some, Option.map_some, Option.bind_some, List.length_cons, List.length_nil, Option.isSome_some, if_true, if_false, Bool.false_eq_true, Bool.false_xor, Bool.true_xor, and_self, Nat.reduceAdd, Nat.reduceLeDiff, reduceIte, List.append_nil, Bool.not_true, Bool.not_false, bYes_ap, gIsN_ap, isNoneD_int, isNoneD_none, Bool.not_not, gIx_str, dotL, dotS, List.length_map, hL]
      refine ⟨_, _, rfl, trivial, trivial, b3, cs ++ [46], hb3, by simp [hlen], fun x hx => ?_, by simp, rfl⟩
      rcases List.mem_append.mp hx with z | z
      · exact hp x z
      · rw [List.mem_singleton.mp z]; exact .inl rfl
    · simp -implicitDefEqProofs only [WE_ok, WE_bind, WE_ite, WE_no, WS_nx, WS_rt, WS_bk, WS_ct, WS_lift, WS_seq, WS_ite, oRs_some, eVar_ap, eC_ap, eBin_ap, isB_bl, asB_ap, bAnd_ap, bOr_ap, bNot_ap, bTru_ap, eAnd_wp, eOr_wp, eNot_wp, andR_bl, orR_bl, notR_bl, decide_eq_true_eq, gAny_lst, gAll_lst, gSum_lst, chkOf_p, lItems_lst, eNeg_ap, eIf_ap, aNil_ap, aCons_ap, eTup_ap, eLst_ap, eLstO_ap, eB_ap, eCall_ap, eMth_ap, eIsi_ap, eSl_ap, oNone_ap, oSome_ap, eLc_ap, sSeq_ap, sNil_ap, sBrk_ap, sCnt_ap, sExpr_ap, rtO_some, sRetR_ap, sRetN_ap, sIf_ap, sSet_ap, nxG_ok, sAsg_ap, sAug_ap, gNm_ap, sFor_ap, iRgA_ap, iRgB_ap, iTpl_ap, iLst_ap, restD_p', restAll_nil, restAll_cons, gAdd_int, gAdd_str, gAdd_tup, gAdd_lst, gAddI_int, gSub_int, gMul_int, gMod_int, gFdv_int, gPow_int, gLt_int, gLe_int, gGt_int, gGe_int, gEq_int, gEq_str, gEq_bl, atI_nat', atI_0, atI_1, atI_2, atI_3, atI_4, atI_5, gIx_tup, gIx_lst, gIx_scr, gIx_ob, obL_lst, obL_fz, gLen_tup, gLen_lst, gLen_scr, gLen_ob, gToInt_int, gToInt_bl, gToStr_int, truD_bl, gMin2_int, gMax2_int, isLst_ob, isLst_lst, obO_lst, oLst_ob, appO_some, gApp_ap, gSetL_ap, okE_some, setL_ob, ixN_0, ixN_1, sizeLine_val, rngL_length, List.set_cons_zero, List.set_cons_succ, List.getElem?_cons_zero, List.getElem?_cons_succ, Option.join_some, Option.map_some, Option.bind_some, List.length_cons, List.length_nil, Option.isSome_some, if_true, if_false, Bool.false_eq_true, Bool.false_xor, Bool.true_xor, and_self, Nat.reduceAdd, Nat.reduceLeDiff, reduceIte, List.append_nil, Bool.not_true, Bool.not_false, bYes_ap, gIsN_ap, isNoneD_int, isNoneD_none, Bool.not_not, gIx_str, dotL, dotS, List.length_map, hL]
      refine ⟨_, _, rfl, trivial, trivial, b3, cs ++ [35], hb3, by simp [hlen], fun x hx => ?_, by simp, rfl⟩
      rcases List.mem_append.mp hx with z | z
      · exact hp x z
      · rw [List.mem_singleton.mp z]; exact .inr rfl
  · rintro acc S' ⟨b2, cs, hb2, hlen, hp, rfl, rfl⟩
    rw [rngL_length, Nat.zero_add] at hlen
    exact ⟨cs, by omega, rfl, q b2 cs hb2 hlen hp⟩
theorem leaf_wp {k wide : Nat} (hs : S[n]? = some b) (hb : IsBox b) (hc : ClS 0 S) (hk : k < 1000) (hw : 1 ≤ wide) (hw2 : wide ≤ 16)
    (q : ∀ b' pt, IsBox b' → Pt.leaf wide pt → Q (.p pt.py) (S.set n b')) : WE (G_law_leaf [.ob n, .int k, .int wide] S) Q E := by
  have hl : n < S.length := (List.getElem?_eq_some_iff.mp hs).1
  have hlog := toStr_log hk
  have hlen := toStr_len hk
  have p1 : (Str.ofString "p").length = 1 := by decide +kernel
  refine WE_def (fun d S' => ∃ b' pt T, IsBox b' ∧ Pt.leaf wide pt ∧ d = .p pt.py ∧ S' = S.set n b' ++ T) ?_ (fun d S' ⟨b', pt, T, hb', hp, e1, e2⟩ => ⟨_, S.set n b', T, e1, e2, by simp, clS_set hc hb'.cl, q b' pt hb' hp⟩)
  rw [show start0 NN_law_leaf [.ob n, .int k, .int wide] = [some (.ob n), some (.int k), some (.int wide), none, none, none, none, none, none, none] from rfl]
  unfold B_law_leaf
  refine WS_cut (fun ρ S' => ∃ nm : Str, S' = S ∧ ρ = [some (.ob n), some (.int k), some (.int wide), some (.str nm), none, none, none, none, none, none]) ?_ ?_
  · simp -implicitDefEqProofs only [WE_ok, WE_bind, WE_ite, WE_no, WS_nx, WS_rt, WS_bk, WS_ct, WS_lift, WS_seq, WS_ite, oRs_some, eVar_ap, eC_ap, eBin_ap, isB_bl, asB_ap, bAnd_ap, bOr_ap, bNot_ap, bTru_ap, eAnd_wp, eOr_wp, eNot_wp, andR_bl, orR_bl, notR_bl, decide_eq_true_eq, gAny_lst, gAll_lst, gSum_lst, chkOf_p, lItems_lst, eNeg_ap, eIf_ap, aNil_ap, aCons_ap, eTup_ap, eLst_ap, eLstO_ap, eB_ap, eCall_ap, eMth_ap, eIsi_ap, eSl_ap, oNone_ap, oSome_ap, eLc_ap, sSeq_ap, sNil_ap, sBrk_ap, sCnt_ap, sExpr_ap, rtO_some, sRetR_ap, sRetN_ap, sIf_ap, sSet_ap, nxG_ok, sAsg_ap, sAug_ap, gNm_ap, sFor_ap, iRgA_ap, iRgB_ap, iTpl_ap, iLst_ap, restD_p', restAll_nil, restAll_cons, gAdd_int, gAdd_str, gAdd_tup, gAdd_lst, gAddI_int, gSub_int, gMul_int, gMod_int, gFdv_int, gPow_int, gLt_int, gLe_int, gGt_int, gGe_int, gEq_int, gEq_str, gEq_bl, atI_nat', atI_0, atI_1, atI_2, atI_3, atI_4, atI_5, gIx_tup, gIx_lst, gIx_scr, gIx_ob, obL_lst, obL_fz, gLen_tup, gLen_lst, gLen_scr, gLen_ob, gToInt_int, gToInt_bl, gToStr_int, truD_bl, gMin2_int, gMax2_int, isLst_ob, isLst_lst, obO_lst, oLst_ob, appO_some, gApp_ap, gSetL_ap, okE_some, setL_ob, ixN_0, ixN_1, sizeLine_val, rngL_length, List.set_cons_zero, List.set_cons_succ, List.getElem?_cons_zero, List.getElem?_cons_succ, Option.join_some, Option.map_some, Option.bind_some, List.length_cons, List.length_nil, Option.isSome_some, if_true, if_false, Bool.false_eq_true, Bool.false_xor, Bool.true_xor, and_self, Nat.reduceAdd, Nat.reduceLeDiff, reduceIte, List.append_nil, Bool.not_true, Bool.not_false, bYes_ap, gIsN_ap, isNoneD_int, isNoneD_none, Bool.not_not, hlog]
    rw [if_pos (by rw [p1]; omega)]
    exact ⟨_, by trivial, by trivial⟩
  rintro ρ S' ⟨nm, rfl, rfl⟩
  refine WS_cut (fun ρ S1 => ∃ b' lab, IsBox b' ∧ S1 = S'.set n b' ∧ ρ = [some (.ob n), some (.int k), some (.int wide), some (.str nm), some (.str lab), none, none, none, none, none]) ?_ ?_
  · simp -implicitDefEqProofs only [WE_ok, WE_bind, WE_ite, WE_no, WS_nx, WS_rt, WS_bk, WS_ct, WS_lift, WS_seq, WS_ite, oRs_some, eVar_ap, eC_ap, eBin_ap, isB_bl, asB_ap, bAnd_ap, bOr_ap, bNot_ap, bTru_ap, eAnd_wp, eOr_wp, eNot_wp, andR_bl, orR_bl, notR_bl, decide_eq_true_eq, gAny_lst, gAll_lst, gSum_lst, chkOf_p, lItems_lst, eNeg_ap, eIf_ap, aNil_ap, aCons_ap, eTup_ap, eLst_ap, eLstO_ap, eB_ap, eCall_ap, eMth_ap, eIsi_ap, eSl_ap, oNone_ap, oSome_ap, eLc_ap, sSeq_ap, sNil_ap, sBrk_ap, sCnt_ap, sExpr_ap, rtO_some, sRetR_ap, sRetN_ap, sIf_ap, sSet_ap, nxG_ok, sAsg_ap, sAug_ap, gNm_ap, sFor_ap, iRgA_ap, iRgB_ap, iTpl_ap, iLst_ap, restD_p', restAll_nil, restAll_cons, gAdd_int, gAdd_str, gAdd_tup, gAdd_lst, gAddI_int, gSub_int, gMul_int, gMod_int, gFdv_int, gPow_int, gLt_int, gLe_int, gGt_int, gGe_int, gEq_int, gEq_str, gEq_bl, atI_nat', atI_0, atI_1, atI_2, atI_3, atI_4, atI_5, gIx_tup, gIx_lst, gIx_scr, gIx_ob, obL_lst, obL_fz, gLen_tup, gLen_lst, gLen_scr, gLen_ob, gToInt_int, gToInt_bl, gToStr_int, truD_bl, gMin2_int, gMax2_int, isLst_ob, isLst_lst, obO_lst, oLst_ob, appO_some, gApp_ap, gSetL_ap, okE_some, setL_ob, ixN_0, ixN_1, sizeLine_val, rngL_length, List.set_cons_zero, List.set_cons_succ, List.getElem?_cons_zero, List.getElem?_cons_succ, Option.join_some, Option.map_some, Option.bind_some, List.length_cons, List.length_nil, Option.isSome_some, if_true, if_false, Bool.false_eq_true, Bool.false_xor, Bool.true_xor, and_self, Nat.reduceAdd, Nat.reduceLeDiff, reduceIte, List.append_nil, Bool.not_true, Bool.not_false, bYes_ap, gIsN_ap, isNoneD_int, isNoneD_none, Bool.not_not]
    refine draw_wp hs hb (by decide) hc fun v b1 h0 h1 hb1 => ?_
    have h2 : v = 0 ∨ v = 1 ∨ v = 2 := by omega
    rcases h2 with rfl | rfl | rfl
    · simp -implicitDefEqProofs only [WE_ok, WE_bind, WE_ite, WE_no, WS_nx, WS_rt, WS_bk, WS_ct, WS_lift, WS_seq, WS_ite, oRs_some, eVar_ap, eC_ap, eBin_ap, isB_bl, asB_ap, bAnd_ap, bOr_ap, bNot_ap, bTru_ap, eAnd_wp, eOr_wp, eNot_wp, andR_bl, orR_bl, notR_bl, decide_eq_true_eq, gAny_lst, gAll_lst, gSum_lst, chkOf_p, lItems_lst, eNeg_ap, eIf_ap, aNil_ap, aCons_ap, eTup_ap, eLst_ap, eLstO_ap, eB_ap, eCall_ap, eMth_ap, eIsi_ap, eSl_ap, oNone_ap, oSome_ap, eLc_ap, sSeq_ap, sNil_ap, sBrk_ap, sCnt_ap, sExpr_ap, rtO_some, sRetR_ap, sRetN_ap, sIf_ap, sSet_ap, nxG_ok, sAsg_ap, sAug_ap, gNm_ap, sFor_ap, iRgA_ap, iRgB_ap, iTpl_ap, iLst_ap, restD_p', restAll_nil, restAll_cons, gAdd_int, gAdd_str, gAdd_tup, gAdd_lst, gAddI_int, gSub_int, gMul_int, gMod_int, gFdv_int, gPow_int, gLt_int, gLe_int, gGt_int, gGe_int, gEq_int, gEq_str, gEq_bl, atI_nat', atI_0, atI_1, atI_2, atI_3, atI_4, atI_5, gIx_tup, gIx_lst, gIx_scr, gIx_ob, obL_lst, obL_fz, gLen_tup, gLen_lst, gLen_scr, gLen_ob, gToInt_int, gToInt_bl, gToStr_int, truD_bl, gMin2_int, gMax2_int, isLst_ob, isLst_lst, obO_lst, oLst_ob, appO_some, gApp_ap, gSetL_ap, okE_some, setL_ob, ixN_0, ixN_1, sizeLine_val, rngL_length, List.set_cons_zero, List.set_cons_succ, List.getElem?_cons_zero, List.getElem?_cons_succ, Option.join_some, Option.map_some, Option.bind_some, List.length_cons, List.length_nil, Option.isSome_some, if_true, if_false, Bool.false_eq_true, Bool.false_xor, Bool.true_xor, and_self, Nat.reduceAdd, Nat.reduceLeDiff, reduceIte, List.append_nil, Bool.not_true, Bool.not_false, bYes_ap, gIsN_ap, isNoneD_int, isNoneD_none, Bool.not_not]
      exact ⟨b1, _, hb1, by trivial, by trivial⟩
    · simp -implicitDefEqProofs only [WE_ok, WE_bind, WE_ite, WE_no, WS_nx, WS_rt, WS_bk, WS_ct, WS_lift, WS_seq, WS_ite, oRs_some, eVar_ap, eC_ap, eBin_ap, isB_bl, asB_ap, bAnd_ap, bOr_ap, bNot_ap, bTru_ap, eAnd_wp, eOr_wp, eNot_wp, andR_bl, orR_bl, notR_bl, decide_eq_true_eq, gAny_lst, gAll_lst, gSum_lst, chkOf_p, lItems_lst, eNeg_ap, eIf_ap, aNil_ap, aCons_ap, eTup_ap, eLst_ap, eLstO_ap, eB_ap, eCall_ap, eMth_ap, eIsi_ap, eSl_ap, oNone_ap, oSome_ap, eLc_ap, sSeq_ap, sNil_ap, sBrk_ap, sCnt_ap, sExpr_ap, rtO_some, sRetR_ap, sRetN_ap, sIf_ap, sSet_ap, nxG_ok, sAsg_ap, sAug_ap, gNm_ap, sFor_ap, iRgA_ap, iRgB_ap, iTpl_ap, iLst_ap, restD_p', restAll_nil, restAll_cons, gAdd_int, gAdd_str, gAdd_tup, gAdd_lst, gAddI_int, gSub_int, gMul_int, gMod_int, gFdv_int, gPow_int, gLt_int, gLe_int, gGt_int, gGe_int, gEq_int, gEq_str, gEq_bl, atI_nat', atI_0, atI_1, atI_2, atI_3, atI_4, atI_5, gIx_tup, gIx_lst, gIx_scr, gIx_ob, obL_lst, obL_fz, gLen_tup, gLen_lst, gLen_scr, gLen_ob, gToInt_int, gToInt_bl, gToStr_int, truD_bl, gMin2_int, gMax2_int, isLst_ob, isLst_lst, obO_lst, oLst_ob, appO_some, gApp_ap, gSetL_ap, okE_some, setL_ob, ixN_0, ixN_1, sizeLine_val, rngL_length, List.set_cons_zero, List.set_cons_succ, List.getElem?_cons_zero, List.getElem?_cons_succ, Option.join_some, Option.map_some, Option.bind_some, List.length_cons, List.length_nil, Option.isSome_some, if_true, if_false, Bool.false_eq_true, Bool.false_xor, Bool.true_xor, and_self, Nat.reduceAdd, Nat.reduceLeDiff, reduceIte, List.append_nil, Bool.not_true, Bool.not_false, bYes_ap, gIsN_ap, isNoneD_int, isNoneD_none, Bool.not_not]
      exact ⟨b1, _, hb1, by trivial, by trivial⟩
    · simp -implicitDefEqProofs only [WE_ok, WE_bind, WE_ite, WE_no, WS_nx, WS_rt, WS_bk, WS_ct, WS_lift, WS_seq, WS_ite, oRs_some, eVar_ap, eC_ap, eBin_ap, isB_bl, asB_ap, bAnd_ap, bOr_ap, bNot_ap, bTru_ap, eAnd_wp, eOr_wp, eNot_wp, andR_bl, orR_bl, notR_bl, decide_eq_true_eq, gAny_lst, gAll_lst, gSum_lst, chkOf_p, lItems_lst, eNeg_ap, eIf_ap, aNil_ap, aCons_ap, eTup_ap, eLst_ap, eLstO_ap, eB_ap, eCall_ap, eMth_ap, eIsi_ap, eSl_ap, oNone_ap, oSome_ap, eLc_ap, sSeq_ap, sNil_ap, sBrk_ap, sCnt_ap, sExpr_ap, rtO_some, sRetR_ap, sRetN_ap, sIf_ap, sSet_ap, nxG_ok, sAsg_ap, sAug_ap, gNm_ap, sFor_ap, iRgA_ap, iRgB_ap, iTpl_ap, iLst_ap, restD_p', restAll_nil, restAll_cons, gAdd_int, gAdd_str, gAdd_tup, gAdd_lst, gAddI_int, gSub_int, gMul_int, gMod_int, gFdv_int, gPow_int, gLt_int, gLe_int, gGt_int, gGe_int, gEq_int, gEq_str, gEq_bl, atI_nat', atI_0, atI_1, atI_2, atI_3, atI_4, atI_5, gIx_tup, gIx_lst, gIx_scr, gIx_ob, obL_lst, obL_fz, gLen_tup, gLen_lst, gLen_scr, gLen_ob, gToInt_int, gToInt_bl, gToStr_int, truD_bl, gMin2_int, gMax2_int, isLst_ob, isLst_lst, obO_lst, oLst_ob, appO_some, gApp_ap, gSetL_ap, okE_some, setL_ob, ixN_0, ixN_1, sizeLine_val, rngL_length, List.set_cons_zero, List.set_cons_succ, List.getElem?_cons_zero, List.getElem?_cons_succ, Option.join_some, Option.map_some, Option.bind_some, List.length_cons, List.length_nil, Option.isSome_some, if_true, if_false, Bool.false_eq_true, Bool.false_xor, Bool.true_xor, and_self, Nat.reduceAdd, Nat.reduceLeDiff, reduceIte, List.append_nil, Bool.not_true, Bool.not_false, bYes_ap, gIsN_ap, isNoneD_int, isNoneD_none, Bool.not_not]
      exact ⟨b1, _, hb1, by trivial, by trivial⟩
  rintro ρ S1 ⟨b1, lab, hb1, rfl, rfl⟩
  refine WS_cut (fun ρ S1 => ∃ b' c, IsBox b' ∧ c < 4 ∧ S1 = S'.set n b' ∧ ρ = [some (.ob n), some (.int k), some (.int wide), some (.str nm), some (.str lab), some (.int (c : Nat)), none, none, none, none]) ?_ ?_
  · simp -implicitDefEqProofs only [WE_ok, WE_bind, WE_ite, WE_no, WS_nx, WS_rt, WS_bk, WS_ct, WS_lift, WS_seq, WS_ite, oRs_some, eVar_ap, eC_ap, eBin_ap, isB_bl, asB_ap, bAnd_ap, bOr_ap, bNot_ap, bTru_ap, eAnd_wp, eOr_wp, eNot_wp, andR_bl, orR_bl, notR_bl, decide_eq_true_eq, gAny_lst, gAll_lst, gSum_lst, chkOf_p, lItems_lst, eNeg_ap, eIf_ap, aNil_ap, aCons_ap, eTup_ap, eLst_ap, eLstO_ap, eB_ap, eCall_ap, eMth_ap, eIsi_ap, eSl_ap, oNone_ap, oSome_ap, eLc_ap, sSeq_ap, sNil_ap, sBrk_ap, sCnt_ap, sExpr_ap, rtO_some, sRetR_ap, sRetN_ap, sIf_ap, sSet_ap, nxG_ok, sAsg_ap, sAug_ap, gNm_ap, sFor_ap, iRgA_ap, iRgB_ap, iTpl_ap, iLst_ap, restD_p', restAll_nil, restAll_cons, gAdd_int, gAdd_str, gAdd_tup, gAdd_lst, gAddI_int, gSub_int, gMul_int, gMod_int, gFdv_int, gPow_int, gLt_int, gLe_int, gGt_int, gGe_int, gEq_int, gEq_str, gEq_bl, atI_nat', atI_0, atI_1, atI_2, atI_3, atI_4, atI_5, gIx_tup, gIx_lst, gIx_scr, gIx_ob, obL_lst, obL_fz, gLen_tup, gLen_lst, gLen_scr, gLen_ob, gToInt_int, gToInt_bl, gToStr_int, truD_bl, gMin2_int, gMax2_int, isLst_ob, isLst_lst, obO_lst, oLst_ob, appO_some, gApp_ap, gSetL_ap, okE_some, setL_ob, ixN_0, ixN_1, sizeLine_val, rngL_length, List.set_cons_zero, List.set_cons_succ, List.getElem?_cons_zero, List.getElem?_cons_succ, Option.join_some, Option.map_some, Option.bind_some, List.length_cons, List.length_nil, Option.isSome_some, if_true, if_false, Bool.false_eq_true, Bool.false_xor, Bool.true_xor, and_self, Nat.reduceAdd, Nat.reduceLeDiff, reduceIte, List.append_nil, Bool.not_true, Bool.not_false, bYes_ap, gIsN_ap, isNoneD_int, isNoneD_none, Bool.not_not]
    refine draw_wp (set_get hl) hb1 (by decide) (clS_set hc hb1.cl) fun v b2 h0 h1 hb2 => ?_
    obtain ⟨c, rfl⟩ := Int.eq_ofNat_of_zero_le h0
    simp -implicitDefEqProofs only [WE_ok, WE_bind, WE_ite, WE_no, WS_nx, WS_rt, WS_bk, WS_ct, WS_lift, WS_seq, WS_ite, oRs_some, eVar_ap, eC_ap, eBin_ap, isB_bl, asB_ap, bAnd_ap, bOr_ap, bNot_ap, bTru_ap, eAnd_wp, eOr_wp, eNot_wp, andR_bl, orR_bl, notR_bl, decide_eq_true_eq, gAny_lst, gAll_lst, gSum_lst, chkOf_p, lItems_lst, eNeg_ap, eIf_ap, aNil_ap, aCons_ap, eTup_ap, eLst_ap, eLstO_ap, eB_ap, eCall_ap, eMth_ap, eIsi_ap, eSl_ap, oNone_ap, oSome_ap, eLc_ap, sSeq_ap, sNil_ap, sBrk_ap, sCnt_ap, sExpr_ap, rtO_some, sRetR_ap, sRetN_ap, sIf_ap, sSet_ap, nxG_ok, sAsg_ap, sAug_ap, gNm_ap, sFor_ap, iRgA_ap, iRgB_ap, iTpl_ap, iLst_ap, restD_p', restAll_nil, restAll_cons, gAdd_int, gAdd_str, gAdd_tup, gAdd_lst, gAddI_int, gSub_int, gMul_int, gMod_int, gFdv_int, gPow_int, gLt_int, gLe_int, gGt_int, gGe_int, gEq_int, gEq_str, gEq_bl, atI_nat', atI_0, atI_1, atI_2, atI_3, atI_4, atI_5, gIx_tup, gIx_lst, gIx_scr, gIx_ob, obL_lst, obL_fz, gLen_tup, gLen_lst, gLen_scr, gLen_ob, gToInt_int, gToInt_bl, gToStr_int, truD_bl, gMin2_int, gMax2_int, isLst_ob, isLst_lst, obO_lst, oLst_ob, appO_some, gApp_ap, gSetL_ap, okE_some, setL_ob, ixN_0, ixN_1, sizeLine_val, rngL_length, List.set_cons_zero, List.set_cons_succ, List.getElem?_cons_zero, List.getElem?_cons_succ, Option.join_some, Option.map_some, Option.bind_some, List.length_cons, List.length_nil, Option.isSome_some, if_true, if_false, Bool.false_eq_true, Bool.false_xor, Bool.true_xor, and_self, Nat.reduceAdd, Nat.reduceLeDiff, reduceIte, List.append_nil, Bool.not_true, Bool.not_false, bYes_ap, gIsN_ap, isNoneD_int, isNoneD_none, Bool.not_not, List.set_set]
    exact ⟨b2, c, hb2, by omega, by trivial, by trivial⟩
  rintro ρ S1 ⟨b2, c, hb2, hcc, rfl, rfl⟩
  refine WS_cut (fun ρ S1 => ∃ b', IsBox b' ∧ S1 = S'.set n b' ∧ ρ = [some (.ob n), some (.int k), some (.int wide), some (.str nm), some (.str lab), some (.int (c : Nat)), none, none, none, none]) ?_ ?_
  · simp -implicitDefEqProofs only [WE_ok, WE_bind, WE_ite, WE_no, WS_nx, WS_rt, WS_bk, WS_ct, WS_lift, WS_seq, WS_ite, oRs_some, eVar_ap, eC_ap, eBin_ap, isB_bl, asB_ap, bAnd_ap, bOr_ap, bNot_ap, bTru_ap, eAnd_wp, eOr_wp, eNot_wp, andR_bl, orR_bl, notR_bl, decide_eq_true_eq, gAny_lst, gAll_lst, gSum_lst, chkOf_p, lItems_lst, eNeg_ap, eIf_ap, aNil_ap, aCons_ap, eTup_ap, eLst_ap, eLstO_ap, eB_ap, eCall_ap, eMth_ap, eIsi_ap, eSl_ap, oNone_ap, oSome_ap, eLc_ap, sSeq_ap, sNil_ap, sBrk_ap, sCnt_ap, sExpr_ap, rtO_some, sRetR_ap, sRetN_ap, sIf_ap, sSet_ap, nxG_ok, sAsg_ap, sAug_ap, gNm_ap, sFor_ap, iRgA_ap, iRgB_ap, iTpl_ap, iLst_ap, restD_p', restAll_nil, restAll_cons, gAdd_int, gAdd_str, gAdd_tup, gAdd_lst, gAddI_int, gSub_int, gMul_int, gMod_int, gFdv_int, gPow_int, gLt_int, gLe_int, gGt_int, gGe_int, gEq_int, gEq_str, gEq_bl, atI_nat', atI_0, atI_1, atI_2, atI_3, atI_4, atI_5, gIx_tup, gIx_lst, gIx_scr, gIx_ob, obL_lst, obL_fz, gLen_tup, gLen_lst, gLen_scr, gLen_ob, gToInt_int, gToInt_bl, gToStr_int, truD_bl, gMin2_int, gMax2_int, isLst_ob, isLst_lst, obO_lst, oLst_ob, appO_some, gApp_ap, gSetL_ap, okE_some, setL_ob, ixN_0, ixN_1, sizeLine_val, rngL_length, List.set_cons_zero, List.set_cons_succ, List.getElem?_cons_zero, List.getElem?_cons_succ, Option.join_some, Option.map_some, Option.bind_some, List.length_cons, List.length_nil, Option.isSome_some, if_true, if_false, Bool.false_eq_true, Bool.false_xor, Bool.true_xor, and_self, Nat.reduceAdd, Nat.reduceLeDiff, reduceIte, List.append_nil, Bool.not_true, Bool.not_false, bYes_ap, gIsN_ap, isNoneD_int, isNoneD_none, Bool.not_not]
    refine draw_wp (set_get hl) hb2 (by decide) (clS_set hc hb2.cl) fun v b3 h0 h1 hb3 => ?_
    have h2 : v = 0 ∨ v = 1 := by omega
    rcases h2 with rfl | rfl
    · simp -implicitDefEqProofs only [WE_ok, WE_bind, WE_ite, WE_no, WS_nx, WS_rt, WS_bk, WS_ct, WS_lift, WS_seq, WS_ite, oRs_some, eVar_ap, eC_ap, eBin_ap, isB_bl, asB_ap, bAnd_ap, bOr_ap, bNot_ap, bTru_ap, eAnd_wp, eOr_wp, eNot_wp, andR_bl, orR_bl, notR_bl, decide_eq_true_eq, gAny_lst, gAll_lst, gSum_lst, chkOf_p, lItems_lst, eNeg_ap, eIf_ap, aNil_ap, aCons_ap, eTup_ap, eLst_ap, eLstO_ap, eB_ap, eCall_ap, eMth_ap, eIsi_ap, eSl_ap, oNone_ap, oSome_ap, eLc_ap, sSeq_ap, sNil_ap, sBrk_ap, sCnt_ap, sExpr_ap, rtO_some, sRetR_ap, sRetN_ap, sIf_ap, sSet_ap, nxG_ok, sAsg_ap, sAug_ap, gNm_ap, sFor_ap, iRgA_ap, iRgB_ap, iTpl_ap, iLst_ap, restD_p', restAll_nil, restAll_cons, gAdd_int, gAdd_str, gAdd_tup, gAdd_lst, gAddI_int, gSub_int, gMul_int, gMod_int, gFdv_int, gPow_int, gLt_int, gLe_int, gGt_int, gGe_int, gEq_int, gEq_str, gEq_bl, atI_nat', atI_0, atI_1, atI_2, atI_3, atI_4, atI_5, gIx_tup, gIx_lst, gIx_scr, gIx_ob, obL_lst, obL_fz, gLen_tup, gLen_lst, gLen_scr, gLen_ob, gToInt_int, gToInt_bl, gToStr_int, truD_bl, gMin2_int, gMax2_int, isLst_ob, isLst_lst, obO_lst, oLst_ob, appO_some, gApp_ap, gSetL_ap, okE_some, setL_ob, ixN_0, ixN_1, sizeLine_val, rngL_length, List.set_cons_zero, List.set_cons_succ, List.getElem?_cons_zero, List.getElem?_cons_succ, Option.join_some, Option.map_some, Option.bind_some, List.length_cons, List.length_nil, Option.isSome_some, if_true, if_false, Bool.false_eq_true, Bool.false_xor, Bool.true_xor, and_self, Nat.reduceAdd, Nat.reduceLeDiff, reduceIte, List.append_nil, Bool.not_true, Bool.not_false, bYes_ap, gIsN_ap, isNoneD_int, isNoneD_none, Bool.not_not, List.set_set, beq_self_eq_true]
      refine draw_wp (set_get hl) hb3 (by decide) (clS_set hc hb3.cl) fun v b4 h0 h1 hb4 => ?_
      simp -implicitDefEqProofs only [WE_ok, WE_bind, WE_ite, WE_no, WS_nx, WS_rt, WS_bk, WS_ct, WS_lift, WS_seq, WS_ite, oRs_some, eVar_ap, eC_ap, eBin_ap, isB_bl, asB_ap, bAnd_ap, bOr_ap, bNot_ap, bTru_ap, eAnd_wp, eOr_wp, eNot_wp, andR_bl, orR_bl, notR_bl, decide_eq_true_eq, gAny_lst, gAll_lst, gSum_lst, chkOf_p, lItems_lst, eNeg_ap, eIf_ap, aNil_ap, aCons_ap, eTup_ap, eLst_ap, eLstO_ap, eB_ap, eCall_ap, eMth_ap, eIsi_ap, eSl_ap, oNone_ap, oSome_ap, eLc_ap, sSeq_ap, sNil_ap, sBrk_ap, sCnt_ap, sExpr_ap, rtO_some, sRetR_ap, sRetN_ap, sIf_ap, sSet_ap, nxG_ok, sAsg_ap, sAug_ap, gNm_ap, sFor_ap, iRgA_ap, iRgB_ap, iTpl_ap, iLst_ap, restD_p', restAll_nil, restAll_cons, gAdd_int, gAdd_str, gAdd_tup, gAdd_lst, gAddI_int, gSub_int, gMul_int, gMod_int, gFdv_int, gPow_int, gLt_int, gLe_int, gGt_int, gGe_int, gEq_int, gEq_str, gEq_bl, atI_nat', atI_0, atI_1, atI_2, atI_3, atI_4, atI_5, gIx_tup, gIx_lst, gIx_scr, gIx_ob, obL_lst, obL_fz, gLen_tup, gLen_lst, gLen_scr, gLen_ob, gToInt_int, gToInt_bl, gToStr_int, truD_bl, gMin2_int, gMax2_int, isLst_ob, isLst_lst, obO_lst, oLst_ob, appO_some, gApp_ap, gSetL_ap, okE_some, setL_ob, ixN_0, ixN_1, sizeLine_val, rngL_length, List.set_cons_zero, List.set_cons_succ, List.getElem?_cons_zero, List.getElem?_cons_succ, Option.join_some, Option.map_some, Option.bind_some, List.length_cons, List.length_nil, Option.isSome_some, if_true, if_false, Bool.false_eq_true, Bool.false_xor, Bool.true_xor, and_self, Nat.reduceAdd, Nat.reduceLeDiff, reduceIte, List.append_nil, Bool.not_true, Bool.not_false, bYes_ap, gIsN_ap, isNoneD_int, isNoneD_none, Bool.not_not, List.set_set]
      exact ⟨b4, .plain nm lab c (v == 1), [], hb4, hcc, rfl, by simp⟩
    · have e10 : ((1 : Int) == 0) = false := rfl
      simp -implicitDefEqProofs only [WE_ok, WE_bind, WE_ite, WE_no, WS_nx, WS_rt, WS_bk, WS_ct, WS_lift, WS_seq, WS_ite, oRs_some, eVar_ap, eC_ap, eBin_ap, isB_bl, asB_ap, bAnd_ap, bOr_ap, bNot_ap, bTru_ap, eAnd_wp, eOr_wp, eNot_wp, andR_bl, orR_bl, notR_bl, decide_eq_true_eq, gAny_lst, gAll_lst, gSum_lst, chkOf_p, lItems_lst, eNeg_ap, eIf_ap, aNil_ap, aCons_ap, eTup_ap, eLst_ap, eLstO_ap, eB_ap, eCall_ap, eMth_ap, eIsi_ap, eSl_ap, oNone_ap, oSome_ap, eLc_ap, sSeq_ap, sNil_ap, sBrk_ap, sCnt_ap, sExpr_ap, rtO_some, sRetR_ap, sRetN_ap, sIf_ap, sSet_ap, nxG_ok, sAsg_ap, sAug_ap, gNm_ap, sFor_ap, iRgA_ap, iRgB_ap, iTpl_ap, iLst_ap, restD_p', restAll_nil, restAll_cons, gAdd_int, gAdd_str, gAdd_tup, gAdd_lst, gAddI_int, gSub_int, gMul_int, gMod_int, gFdv_int, gPow_int, gLt_int, gLe_int, gGt_int, gGe_int, gEq_int, gEq_str, gEq_bl, atI_nat', atI_0, atI_1, atI_2, atI_3, atI_4, atI_5, gIx_tup, gIx_lst, gIx_scr, gIx_ob, obL_lst, obL_fz, gLen_tup, gLen_lst, gLen_scr, gLen_ob, gToInt_int, gToInt_bl, gToStr_int, truD_bl, gMin2_int, gMax2_int, isLst_ob, isLst_lst, obO_lst, oLst_ob, appO_some, gApp_ap, gSetL_ap, okE_some, setL_ob, ixN_0, ixN_1, sizeLine_val, rngL_length, List.set_cons_zero, List.set_cons_succ, List.getElem?_cons_zero, List.getElem?_cons_succ, Option.join_some, Option.map_some, Option.bind_some, List.length_cons, List.length_nil, Option.isSome_some, if_true, if_false, Bool.false_eq_true, Bool.false_xor, Bool.true_xor, and_self, Nat.reduceAdd, Nat.reduceLeDiff, reduceIte, List.append_nil, Bool.not_true, Bool.not_false, bYes_ap, gIsN_ap, isNoneD_int, isNoneD_none, Bool.not_not, List.set_set, e10]
      exact ⟨b3, hb3, rfl, trivial⟩
  rintro ρ S1 ⟨b3, hb3, rfl, rfl⟩
  refine WS_cut (fun ρ S1 => ∃ b' w, IsBox b' ∧ 1 ≤ w ∧ w ≤ wide ∧ S1 = S'.set n b' ∧ ρ = [some (.ob n), some (.int k), some (.int wide), some (.str nm), some (.str lab), some (.int (c : Nat)), some (.int (w : Nat)), none, none, none]) ?_ ?_
  · simp -implicitDefEqProofs only [WE_ok, WE_bind, WE_ite, WE_no, WS_nx, WS_rt, WS_bk, WS_ct, WS_lift, WS_seq, WS_ite, oRs_some, eVar_ap, eC_ap, eBin_ap, isB_bl, asB_ap, bAnd_ap, bOr_ap, bNot_ap, bTru_ap, eAnd_wp, eOr_wp, eNot_wp, andR_bl, orR_bl, notR_bl, decide_eq_true_eq, gAny_lst, gAll_lst, gSum_lst, chkOf_p, lItems_lst, eNeg_ap, eIf_ap, aNil_ap, aCons_ap, eTup_ap, eLst_ap, eLstO_ap, eB_ap, eCall_ap, eMth_ap, eIsi_ap, eSl_ap, oNone_ap, oSome_ap, eLc_ap, sSeq_ap, sNil_ap, sBrk_ap, sCnt_ap, sExpr_ap, rtO_some, sRetR_ap, sRetN_ap, sIf_ap, sSet_ap, nxG_ok, sAsg_ap, sAug_ap, gNm_ap, sFor_ap, iRgA_ap, iRgB_ap, iTpl_ap, iLst_ap, restD_p', restAll_nil, restAll_cons, gAdd_int, gAdd_str, gAdd_tup, gAdd_lst, gAddI_int, gSub_int, gMul_int, gMod_int, gFdv_int, gPow_int, gLt_int, gLe_int, gGt_int, gGe_int, gEq_int, gEq_str, gEq_bl, atI_nat', atI_0, atI_1, atI_2, atI_3, atI_4, atI_5, gIx_tup, gIx_lst, gIx_scr, gIx_ob, obL_lst, obL_fz, gLen_tup, gLen_lst, gLen_scr, gLen_ob, gToInt_int, gToInt_bl, gToStr_int, truD_bl, gMin2_int, gMax2_int, isLst_ob, isLst_lst, obO_lst, oLst_ob, appO_some, gApp_ap, gSetL_ap, okE_some, setL_ob, ixN_0, ixN_1, sizeLine_val, rngL_length, List.set_cons_zero, List.set_cons_succ, List.getElem?_cons_zero, List.getElem?_cons_succ, Option.join_some, Option.map_some, Option.bind_some, List.length_cons, List.length_nil, Option.isSome_some, if_true, if_false, Bool.false_eq_true, Bool.false_xor, Bool.true_xor, and_self, Nat.reduceAdd, Nat.reduceLeDiff, reduceIte, List.append_nil, Bool.not_true, Bool.not_false, bYes_ap, gIsN_ap, isNoneD_int, isNoneD_none, Bool.not_not]
    refine draw_wp (set_get hl) hb3 (by omega) (clS_set hc hb3.cl) fun v b4 h0 h1 hb4 => ?_
    obtain ⟨w, rfl⟩ := Int.eq_ofNat_of_zero_le h0
    simp -implicitDefEqProofs only [WE_ok, WE_bind, WE_ite, WE_no, WS_nx, WS_rt, WS_bk, WS_ct, WS_lift, WS_seq, WS_ite, oRs_some, eVar_ap, eC_ap, eBin_ap, isB_bl, asB_ap, bAnd_ap, bOr_ap, bNot_ap, bTru_ap, eAnd_wp, eOr_wp, eNot_wp, andR_bl, orR_bl, notR_bl, decide_eq_true_eq, gAny_lst, gAll_lst, gSum_lst, chkOf_p, lItems_lst, eNeg_ap, eIf_ap, aNil_ap, aCons_ap, eTup_ap, eLst_ap, eLstO_ap, eB_ap, eCall_ap, eMth_ap, eIsi_ap, eSl_ap, oNone_ap, oSome_ap, eLc_ap, sSeq_ap, sNil_ap, sBrk_ap, sCnt_ap, sExpr_ap, rtO_some, sRetR_ap, sRetN_ap, sIf_ap, sSet_ap, nxG_ok, sAsg_ap, sAug_ap, gNm_ap, sFor_ap, iRgA_ap, iRgB_ap, iTpl_ap, iLst_ap, restD_p', restAll_nil, restAll_cons, gAdd_int, gAdd_str, gAdd_tup, gAdd_lst, gAddI_int, gSub_int, gMul_int, gMod_int, gFdv_int, gPow_int, gLt_int, gLe_int, gGt_int, gGe_int, gEq_int, gEq_str, gEq_bl, atI_nat', atI_0, atI_1, atI_2, atI_3, atI_4, atI_5, gIx_tup, gIx_lst, gIx_scr, gIx_ob, obL_lst, obL_fz, gLen_tup, gLen_lst, gLen_scr, gLen_ob, gToInt_int, gToInt_bl, gToStr_int, truD_bl, gMin2_int, gMax2_int, isLst_ob, isLst_lst, obO_lst, oLst_ob, appO_some, gApp_ap, gSetL_ap, okE_some, setL_ob, ixN_0, ixN_1, sizeLine_val, rngL_length, List.set_cons_zero, List.set_cons_succ, List.getElem?_cons_zero, List.getElem?_cons_succ, Option.join_some, Option.map_some, Option.bind_some, List.length_cons, List.length_nil, Option.isSome_some, if_true, if_false, Bool.false_eq_true, Bool.false_xor, Bool.true_xor, and_self, Nat.reduceAdd, Nat.reduceLeDiff, reduceIte, List.append_nil, Bool.not_true, Bool.not_false, bYes_ap, gIsN_ap, isNoneD_int, isNoneD_none, Bool.not_not, List.set_set]
    exact ⟨b4, 1 + w, hb4, by omega, by omega, rfl, by simp⟩
  rintro ρ S1 ⟨b4, w, hb4, hw1, hw3, rfl, rfl⟩
  refine WS_cut (fun ρ S1 => S1 = S'.set n b4 ++ [rL []] ∧ ρ = [some (.ob n), some (.int k), some (.int wide), some (.str nm), some (.str lab), some (.int (c : Nat)), some (.int (w : Nat)), some (.ob S'.length), none, none]) ?_ ?_
  · simp -implicitDefEqProofs only [WE_ok, WE_bind, WE_ite, WE_no, WS_nx, WS_rt, WS_bk, WS_ct, WS_lift, WS_seq, WS_ite, oRs_some, eVar_ap, eC_ap, eBin_ap, isB_bl, asB_ap, bAnd_ap, bOr_ap, bNot_ap, bTru_ap, eAnd_wp, eOr_wp, eNot_wp, andR_bl, orR_bl, notR_bl, decide_eq_true_eq, gAny_lst, gAll_lst, gSum_lst, chkOf_p, lItems_lst, eNeg_ap, eIf_ap, aNil_ap, aCons_ap, eTup_ap, eLst_ap, eLstO_ap, eB_ap, eCall_ap, eMth_ap, eIsi_ap, eSl_ap, oNone_ap, oSome_ap, eLc_ap, sSeq_ap, sNil_ap, sBrk_ap, sCnt_ap, sExpr_ap, rtO_some, sRetR_ap, sRetN_ap, sIf_ap, sSet_ap, nxG_ok, sAsg_ap, sAug_ap, gNm_ap, sFor_ap, iRgA_ap, iRgB_ap, iTpl_ap, iLst_ap, restD_p', restAll_nil, restAll_cons, gAdd_int, gAdd_str, gAdd_tup, gAdd_lst, gAddI_int, gSub_int, gMul_int, gMod_int, gFdv_int, gPow_int, gLt_int, gLe_int, gGt_int, gGe_int, gEq_int, gEq_str, gEq_bl, atI_nat', atI_0, atI_1, atI_2, atI_3, atI_4, atI_5, gIx_tup, gIx_lst, gIx_scr, gIx_ob, obL_lst, obL_fz, gLen_tup, gLen_lst, gLen_scr, gLen_ob, gToInt_int, gToInt_bl, gToStr_int, truD_bl, gMin2_int, gMax2_int, isLst_ob, isLst_lst, obO_lst, oLst_ob, appO_some, gApp_ap, gSetL_ap, okE_some, setL_ob, ixN_0, ixN_1, sizeLine_val, rngL_length, List.set_cons_zero, List.set_cons_succ, List.getElem?_cons_zero, List.getElem?_cons_succ, Option.join_some, Option.map_some, Option.bind_some, List.length_cons, List.length_nil, Option.isSome_some, if_true, if_false, Bool.false_eq_true, Bool.false_xor, Bool.true_xor, and_self, Nat.reduceAdd, Nat.reduceLeDiff, reduceIte, List.append_nil, Bool.not_true, Bool.not_false, bYes_ap, gIsN_ap, isNoneD_int, isNoneD_none, Bool.not_not]
    exact ⟨rfl, by simp⟩
  rintro ρ S1 ⟨rfl, rfl⟩
  refine WS_cut (fun ρ S1 => ∃ b' h rows v8, IsBox b' ∧ 1 ≤ h ∧ h ≤ wide ∧ imgOk w h rows ∧ S1 = S'.set n b' ++ [rL rows] ∧ ρ = [some (.ob n), some (.int k), some (.int wide), some (.str nm), some (.str lab), some (.int (c : Nat)), some (.int (w : Nat)), some (.ob S'.length), v8, none]) ?_ ?_
  · simp -implicitDefEqProofs only [WE_ok, WE_bind, WE_ite, WE_no, WS_nx, WS_rt, WS_bk, WS_ct, WS_lift, WS_seq, WS_ite, oRs_some, eVar_ap, eC_ap, eBin_ap, isB_bl, asB_ap, bAnd_ap, bOr_ap, bNot_ap, bTru_ap, eAnd_wp, eOr_wp, eNot_wp, andR_bl, orR_bl, notR_bl, decide_eq_true_eq, gAny_lst, gAll_lst, gSum_lst, chkOf_p, lItems_lst, eNeg_ap, eIf_ap, aNil_ap, aCons_ap, eTup_ap, eLst_ap, eLstO_ap, eB_ap, eCall_ap, eMth_ap, eIsi_ap, eSl_ap, oNone_ap, oSome_ap, eLc_ap, sSeq_ap, sNil_ap, sBrk_ap, sCnt_ap, sExpr_ap, rtO_some, sRetR_ap, sRetN_ap, sIf_ap, sSet_ap, nxG_ok, sAsg_ap, sAug_ap, gNm_ap, sFor_ap, iRgA_ap, iRgB_ap, iTpl_ap, iLst_ap, restD_p', restAll_nil, restAll_cons, gAdd_int, gAdd_str, gAdd_tup, gAdd_lst, gAddI_int, gSub_int, gMul_int, gMod_int, gFdv_int, gPow_int, gLt_int, gLe_int, gGt_int, gGe_int, gEq_int, gEq_str, gEq_bl, atI_nat', atI_0, atI_1, atI_2, atI_3, atI_4, atI_5, gIx_tup, gIx_lst, gIx_scr, gIx_ob, obL_lst, obL_fz, gLen_tup, gLen_lst, gLen_scr, gLen_ob, gToInt_int, gToInt_bl, gToStr_int, truD_bl, gMin2_int, gMax2_int, isLst_ob, isLst_lst, obO_lst, oLst_ob, appO_some, gApp_ap, gSetL_ap, okE_some, setL_ob, ixN_0, ixN_1, sizeLine_val, rngL_length, List.set_cons_zero, List.set_cons_succ, List.getElem?_cons_zero, List.getElem?_cons_succ, Option.join_some, Option.map_some, Option.bind_some, List.length_cons, List.length_nil, Option.isSome_some, if_true, if_false, Bool.false_eq_true, Bool.false_xor, Bool.true_xor, and_self, Nat.reduceAdd, Nat.reduceLeDiff, reduceIte, List.append_nil, Bool.not_true, Bool.not_false, bYes_ap, gIsN_ap, isNoneD_int, isNoneD_none, Bool.not_not]
    refine draw_wp (get_set hl) hb4 (by omega) (clS_app (clS_set hc hb4.cl) (clS_one clO_p)) fun v b5 h0 h1 hb5 => ?_
    obtain ⟨h, rfl⟩ := Int.eq_ofNat_of_zero_le h0
    have bh : big62 (1 + (h : Int)) = true := big62_of (by omega) (by omega)
    simp -implicitDefEqProofs only [WE_ok, WE_bind, WE_ite, WE_no, WS_nx, WS_rt, WS_bk, WS_ct, WS_lift, WS_seq, WS_ite, oRs_some, eVar_ap, eC_ap, eBin_ap, isB_bl, asB_ap, bAnd_ap, bOr_ap, bNot_ap, bTru_ap, eAnd_wp, eOr_wp, eNot_wp, andR_bl, orR_bl, notR_bl, decide_eq_true_eq, gAny_lst, gAll_lst, gSum_lst, chkOf_p, lItems_lst, eNeg_ap, eIf_ap, aNil_ap, aCons_ap, eTup_ap, eLst_ap, eLstO_ap, eB_ap, eCall_ap, eMth_ap, eIsi_ap, eSl_ap, oNone_ap, oSome_ap, eLc_ap, sSeq_ap, sNil_ap, sBrk_ap, sCnt_ap, sExpr_ap, rtO_some, sRetR_ap, sRetN_ap, sIf_ap, sSet_ap, nxG_ok, sAsg_ap, sAug_ap, gNm_ap, sFor_ap, iRgA_ap, iRgB_ap, iTpl_ap, iLst_ap, restD_p', restAll_nil, restAll_cons, gAdd_int, gAdd_str, gAdd_tup, gAdd_lst, gAddI_int, gSub_int, gMul_int, gMod_int, gFdv_int, gPow_int, gLt_int, gLe_int, gGt_int, gGe_int, gEq_int, gEq_str, gEq_bl, atI_nat', atI_0, atI_1, atI_2, atI_3, atI_4, atI_5, gIx_tup, gIx_lst, gIx_scr, gIx_ob, obL_lst, obL_fz, gLen_tup, gLen_lst, gLen_scr, gLen_ob, gToInt_int, gToInt_bl, gToStr_int, truD_bl, gMin2_int, gMax2_int, isLst_ob, isLst_lst, obO_lst, oLst_ob, appO_some, gApp_ap, gSetL_ap, okE_some, setL_ob, ixN_0, ixN_1, sizeLine_val, rngL_length, List.set_cons_zero, List.set_cons_succ, List.getElem?_cons_zero, List.getElem?_cons_succ, Option.join_some, Option.map_some, Option.bind_some, List.length_cons, List.length_nil, Option.isSome_some, if_true, if_false, Bool.false_eq_true, Bool.false_xor, Bool.true_xor, and_self, Nat.reduceAdd, Nat.reduceLeDiff, reduceIte, List.append_nil, Bool.not_true, Bool.not_false, bYes_ap, gIsN_ap, isNoneD_int, isNoneD_none, Bool.not_not, set_app hl, bh]
    rw [show (1 + (h : Int)).toNat = 1 + h by omega]
    refine WS_for (fun i ρ S1 => ∃ b' rows v8, IsBox b' ∧ imgOk w i rows ∧ S1 = S'.set n b' ++ [rL rows] ∧ ρ = [some (.ob n), some (.int k), some (.int wide), some (.str nm), some (.str lab), some (.int (c : Nat)), some (.int (w : Nat)), some (.ob S'.length), v8, none]) _ 0 _ _
      ⟨b5, [], none, hb5, ⟨rfl, fun _ z => by cases z⟩, rfl, rfl⟩ ?_ ?_
    · rintro i d ρ S2 hd ⟨b6, rows, v8, hb6, hr, rfl, rfl⟩
      obtain ⟨hi, rfl⟩ := rngL_get hd
      have at1 : (S'.set n b6 ++ [rL rows])[S'.length]? = some (rL rows) := by rw [List.getElem?_append_right (by simp)]; simp
      simp -implicitDefEqProofs only [WE_ok, WE_bind, WE_ite, WE_no, WS_nx, WS_rt, WS_bk, WS_ct, WS_lift, WS_seq, WS_ite, oRs_some, eVar_ap, eC_ap, eBin_ap, isB_bl, asB_ap, bAnd_ap, bOr_ap, bNot_ap, bTru_ap, eAnd_wp, eOr_wp, eNot_wp, andR_bl, orR_bl, notR_bl, decide_eq_true_eq, gAny_lst, gAll_lst, gSum_lst, chkOf_p, lItems_lst, eNeg_ap, eIf_ap, aNil_ap, aCons_ap, eTup_ap, eLst_ap, eLstO_ap, eB_ap, eCall_ap, eMth_ap, eIsi_ap, eSl_ap, oNone_ap, oSome_ap, eLc_ap, sSeq_ap, sNil_ap, sBrk_ap, sCnt_ap, sExpr_ap, rtO_some, sRetR_ap, sRetN_ap, sIf_ap, sSet_ap, nxG_ok, sAsg_ap, sAug_ap, gNm_ap, sFor_ap, iRgA_ap, iRgB_ap, iTpl_ap, iLst_ap, restD_p', restAll_nil, restAll_cons, gAdd_int, gAdd_str, gAdd_tup, gAdd_lst, gAddI_int, gSub_int, gMul_int, gMod_int, gFdv_int, gPow_int, gLt_int, gLe_int, gGt_int, gGe_int, gEq_int, gEq_str, gEq_bl, atI_nat', atI_0, atI_1, atI_2, atI_3, atI_4, atI_5, gIx_tup, gIx_lst, gIx_scr, gIx_ob, obL_lst, obL_fz, gLen_tup, gLen_lst, gLen_scr, gLen_ob, gToInt_int, gToInt_bl, gToStr_int, truD_bl, gMin2_int, gMax2_int, isLst_ob, isLst_lst, obO_lst, oLst_ob, appO_some, gApp_ap, gSetL_ap, okE_some, setL_ob, ixN_0, ixN_1, sizeLine_val, rngL_length, List.set_cons_zero, List.set_cons_succ, List.getElem?_cons_zero, List.getElem?_cons_succ, Option.join_some, Option.map_some, Option.bind_some, List.length_cons, List.length_nil, Option.isSome_some, if_true, if_false, Bool.false_eq_true, Bool.false_xor, Bool.true_xor, and_self, Nat.reduceAdd, Nat.reduceLeDiff, reduceIte, List.append_nil, Bool.not_true, Bool.not_false, bYes_ap, gIsN_ap, isNoneD_int, isNoneD_none, Bool.not_not, at1]
      refine pixrow_wp (w := w) hl hb6 hc (clS_one clO_p) (by omega) rfl rfl (by decide) fun b7 cs hb7 hcl hpx => ?_
      have at2 : (S'.set n b7 ++ [rL rows])[S'.length]? = some (rL rows) := by rw [List.getElem?_append_right (by simp)]; simp
      have hL : rows.length < 16777216 := by rw [hr.1]; omega
      simp -implicitDefEqProofs only [WE_ok, WE_bind, WE_ite, WE_no, WS_nx, WS_rt, WS_bk, WS_ct, WS_lift, WS_seq, WS_ite, oRs_some, eVar_ap, eC_ap, eBin_ap, isB_bl, asB_ap, bAnd_ap, bOr_ap, bNot_ap, bTru_ap, eAnd_wp, eOr_wp, eNot_wp, andR_bl, orR_bl, notR_bl, decide_eq_true_eq, gAny_lst, gAll_lst, gSum_lst, chkOf_p, lItems_lst, eNeg_ap, eIf_ap, aNil_ap, aCons_ap, eTup_ap, eLst_ap, eLstO_ap, eB_ap, eCall_ap, eMth_ap, eIsi_ap, eSl_ap, oNone_ap, oSome_ap, eLc_ap, sSeq_ap, sNil_ap, sBrk_ap, sCnt_ap, sExpr_ap, rtO_some, sRetR_ap, sRetN_ap, sIf_ap, sSet_ap, nxG_ok, sAsg_ap, sAug_ap, gNm_ap, sFor_ap, iRgA_ap, iRgB_ap, iTpl_ap, iLst_ap, restD_p', restAll_nil, restAll_cons, gAdd_int, gAdd_str, gAdd_tup, gAdd_lst, gAddI_int, gSub_int, gMul_int, gMod_int, gFdv_int, gPow_int, gLt_int, gLe_int, gGt_int, gGe_int, gEq_int, gEq_str, gEq_bl, atI_nat', atI_0, atI_1, atI_2, atI_3, atI_4, atI_5, gIx_tup, gIx_lst, gIx_scr, gIx_ob, obL_lst, obL_fz, gLen_tup, gLen_lst, gLen_scr, gLen_ob, gToInt_int, gToInt_bl, gToStr_int, truD_bl, gMin2_int, gMax2_int, isLst_ob, isLst_lst, obO_lst, oLst_ob, appO_some, gApp_ap, gSetL_ap, okE_some, setL_ob, ixN_0, ixN_1, sizeLine_val, rngL_length, List.set_cons_zero, List.set_cons_succ, List.getElem?_cons_zero, List.getElem?_cons_succ, Option.join_some, Option.map_some, Option.bind_some, List.length_cons, List.length_nil, Option.isSome_some, if_true, if_false, Bool.false_eq_true, Bool.false_xor, Bool.true_xor, and_self, Nat.reduceAdd, Nat.reduceLeDiff, reduceIte, List.append_nil, Bool.not_true, Bool.not_false, bYes_ap, gIsN_ap, isNoneD_int, isNoneD_none, Bool.not_not, at2, List.length_map, hL]
      refine ⟨trivial, b7, rows ++ [cs], some (.int (0 + i)), hb7, ⟨by simp [hr.1], fun r hr2 => ?_⟩, ?_, rfl⟩
      · rcases List.mem_append.mp hr2 with z | z
        · exact hr.2 r z
        · rw [List.mem_singleton.mp z]; exact ⟨hcl, hpx⟩
      · rw [List.set_append_right _ _ (by simp)]
        simp
    · rintro ρ S2 ⟨b6, rows, v8, hb6, hr, rfl, rfl⟩
      rw [rngL_length] at hr
      exact ⟨b6, 1 + h, rows, v8, hb6, by omega, by omega, by simpa using hr, rfl, rfl⟩
  rintro ρ S1 ⟨b5, h, rows, v8, hb5, hh1, hh2, hr, rfl, rfl⟩
  have vl : vList (S'.set n b5 ++ [rL rows]) (.ob S'.length) = some (rD rows) := by
    have at2 : (S'.set n b5 ++ [rL rows])[S'.length]? = some (rL rows) := by rw [List.getElem?_append_right (by simp)]; simp
    show (match (S'.set n b5 ++ [rL rows])[S'.length]? with | some (.lst l) => pAll l | some (.fz l) => some l | _ => none) = _
    rw [at2]
    exact pAll_map _
  have gt : gToTup [.ob S'.length] (S'.set n b5 ++ [rL rows]) = .ok (.p (imgD rows)) (S'.set n b5 ++ [rL rows]) := by
    unfold gToTup
    simp only [vl]
  simp -implicitDefEqProofs only [WE_ok, WE_bind, WE_ite, WE_no, WS_nx, WS_rt, WS_bk, WS_ct, WS_lift, WS_seq, WS_ite, oRs_some, eVar_ap, eC_ap, eBin_ap, isB_bl, asB_ap, bAnd_ap, bOr_ap, bNot_ap, bTru_ap, eAnd_wp, eOr_wp, eNot_wp, andR_bl, orR_bl, notR_bl, decide_eq_true_eq, gAny_lst, gAll_lst, gSum_lst, chkOf_p, lItems_lst, eNeg_ap, eIf_ap, aNil_ap, aCons_ap, eTup_ap, eLst_ap, eLstO_ap, eB_ap, eCall_ap, eMth_ap, eIsi_ap, eSl_ap, oNone_ap, oSome_ap, eLc_ap, sSeq_ap, sNil_ap, sBrk_ap, sCnt_ap, sExpr_ap, rtO_some, sRetR_ap, sRetN_ap, sIf_ap, sSet_ap, nxG_ok, sAsg_ap, sAug_ap, gNm_ap, sFor_ap, iRgA_ap, iRgB_ap, iTpl_ap, iLst_ap, restD_p', restAll_nil, restAll_cons, gAdd_int, gAdd_str, gAdd_tup, gAdd_lst, gAddI_int, gSub_int, gMul_int, gMod_int, gFdv_int, gPow_int, gLt_int, gLe_int, gGt_int, gGe_int, gEq_int, gEq_str, gEq_bl, atI_nat', atI_0, atI_1, atI_2, atI_3, atI_4, atI_5, gIx_tup, gIx_lst, gIx_scr, gIx_ob, obL_lst, obL_fz, gLen_tup, gLen_lst, gLen_scr, gLen_ob, gToInt_int, gToInt_bl, gToStr_int, truD_bl, gMin2_int, gMax2_int, isLst_ob, isLst_lst, obO_lst, oLst_ob, appO_some, gApp_ap, gSetL_ap, okE_some, setL_ob, ixN_0, ixN_1, sizeLine_val, rngL_length, List.set_cons_zero, List.set_cons_succ, List.getElem?_cons_zero, List.getElem?_cons_succ, Option.join_some, Option.map_some, Option.bind_some, List.length_cons, List.length_nil, Option.isSome_some, if_true, if_false, Bool.false_eq_true, Bool.false_xor, Bool.true_xor, and_self, Nat.reduceAdd, Nat.reduceLeDiff, reduceIte, List.append_nil, Bool.not_true, Bool.not_false, bYes_ap, gIsN_ap, isNoneD_int, isNoneD_none, Bool.not_not, gt]
  exact ⟨b5, .shape nm lab c w h rows, _, hb5, ⟨hcc, hr, hw1, hw3, hh1, hh2⟩, rfl, rfl⟩
end
end My

namespace My
open PySem PySem.Spec PyProof.Rows L2 DL
def Pt.g16 : Pt → Prop
  | .plain _ _ c _ => c < 4
  | .shape _ _ c w h rows => c < 4 ∧ imgOk w h rows ∧ 1 ≤ w ∧ w ≤ 16 ∧ 1 ≤ h ∧ h ≤ 16
  | .strip _ _ _ _ => True
theorem Pt.leaf.g {wide : Nat} (hw : wide ≤ 16) : ∀ {pt : Pt}, pt.leaf wide → pt.g16
  | .plain _ _ _ _, h => h
  | .shape _ _ _ _ _ _, ⟨h1, h2, h3, h4, h5, h6⟩ => ⟨h1, h2, h3, by omega, h5, by omega⟩
abbrev pyL (Ps : List Pt) : O := .lst (Ps.map fun p => D.p p.py)
theorem pyL_cl {k : Nat} {Ps : List Pt} : ClO k (pyL Ps) := fun d hd => by
  obtain ⟨p, _, rfl⟩ := List.mem_map.mp hd
  trivial
theorem s1 : (Str.ofString "plain" == Str.ofString "shape") = false := by decide +kernel
theorem s2 : (Str.ofString "across" == Str.ofString "shape") = false := by decide +kernel
theorem s3 : (Str.ofString "down" == Str.ofString "shape") = false := by decide +kernel
theorem s4 : (Str.ofString "down" == Str.ofString "across") = false := by decide +kernel
theorem s5 (ac : Bool) : (dirS ac == Str.ofString "shape") = false := by cases ac; exact s3; exact s2
theorem s6 (ac : Bool) : (dirS ac == Str.ofString "across") = ac := by cases ac; exact s4; exact beq_self_eq_true _
section
variable {S : Sto} {n m : Nat} {b : O} {Q : D → Sto → Prop} {E : Xc → Sto → Prop}
theorem set_get_ne {o : O} (h : n ≠ m) : (S.set n o)[m]? = S[m]? := List.getElem?_set_ne h
theorem place_wp {Ps : List Pt} {ac : Bool} (hs : S[n]? = some b) (hp : S[m]? = some (pyL Ps)) (hnm : n ≠ m) (hb : IsBox b) (hc : ClS 0 S) (hg : ∀ p ∈ Ps, p.g16) (h1 : 1 ≤ Ps.length) (h2 : Ps.length < 100)
    (q : ∀ b' p lo hi c, IsBox b' → Ex.ok Ps.length 0 (.pl p lo hi c) → Q (.p (Ex.pl p lo hi c).py) (S.set n b')) : WE (G_law_place [.ob n, .ob m, .str (dirS ac)] S) Q E := by
  have hl : n < S.length := (List.getElem?_eq_some_iff.mp hs).1
  refine WE_def (fun d S' => ∃ b' p lo hi c, IsBox b' ∧ Ex.ok Ps.length 0 (.pl p lo hi c) ∧ d = .p (Ex.pl p lo hi c).py ∧ S' = S.set n b') ?_ (fun d S' ⟨b', p, lo, hi, c, hb', ho, e1, e2⟩ => ⟨_, S.set n b', [], e1, by rw [e2, List.append_nil], by simp, clS_set hc hb'.cl, q b' p lo hi c hb' ho⟩)
  rw [show start0 NN_law_place [.ob n, .ob m, .str (dirS ac)] = [some (.ob n), some (.ob m), some (.str (dirS ac)), none, none, none, none, none] from rfl]
  unfold B_law_place
  have hm : ∀ b' : O, (S.set n b')[m]? = some (pyL Ps) := fun b' => by rw [set_get_ne hnm]; exact hp
  refine WS_cut (fun ρ S1 => ∃ b' k, IsBox b' ∧ k < Ps.length ∧ S1 = S.set n b' ∧ ρ = [some (.ob n), some (.ob m), some (.str (dirS ac)), some (.int (k : Nat)), none, none, none, none]) ?_ ?_
  · simp -implicitDefEqProofs only [WE_ok, WE_bind, WE_ite, WE_no, WS_nx, WS_rt, WS_bk, WS_ct, WS_lift, WS_seq, WS_ite, oRs_some, eVar_ap, eC_ap, eBin_ap, isB_bl, asB_ap, bAnd_ap, bOr_ap, bNot_ap, bTru_ap, eAnd_wp, eOr_wp, eNot_wp, andR_bl, orR_bl, notR_bl, decide_eq_true_eq, gAny_lst, gAll_lst, gSum_lst, chkOf_p, lItems_lst, eNeg_ap, eIf_ap, aNil_ap, aCons_ap, eTup_ap, eLst_ap, eLstO_ap, eB_ap, eCall_ap, eMth_ap, eIsi_ap, eSl_ap, oNone_ap, oSome_ap, eLc_ap, sSeq_ap, sNil_ap, sBrk_ap, sCnt_ap, sExpr_ap, rtO_some, sRetR_ap, sRetN_ap, sIf_ap, sSet_ap, nxG_ok, sAsg_ap, sAug_ap, gNm_ap, sFor_ap, iRgA_ap, iRgB_ap, iTpl_ap, iLst_ap, restD_p', restAll_nil, restAll_cons, gAdd_int, gAdd_str, gAdd_tup, gAdd_lst, gAddI_int, gSub_int, gMul_int, gMod_int, gFdv_int, gPow_int, gLt_int, gLe_int, gGt_int, gGe_int, gEq_int, gEq_str, gEq_bl, atI_nat', atI_0, atI_1, atI_2, atI_3, atI_4, atI_5, gIx_tup, gIx_lst, gIx_scr, gIx_ob, obL_lst, obL_fz, gLen_tup, gLen_lst, gLen_scr, gLen_ob, gToInt_int, gToInt_bl, gToStr_int, truD_bl, gMin2_int, gMax2_int, isLst_ob, isLst_lst, obO_lst, oLst_ob, appO_some, gApp_ap, gSetL_ap, okE_some, setL_ob, ixN_0, ixN_1, sizeLine_val, rngL_length, List.set_cons_zero, List.set_cons_succ, List.getElem?_cons_zero, List.getElem?_cons_succ, Option.join_some, Option.map_some, Option.bind_some, List.length_cons, List.length_nil, Option.isSome_some, if_true, if_false, Bool.false_eq_true, Bool.false_xor, Bool.true_xor, and_self, Nat.reduceAdd, Nat.reduceLeDiff, reduceIte, List.append_nil, Bool.not_true, Bool.not_false, bYes_ap, gIsN_ap, isNoneD_int, isNoneD_none, Bool.not_not]
    refine draw_wp hs hb (by decide) hc fun v b1 h0 h1' hb1 => ?_
    obtain ⟨v, rfl⟩ := Int.eq_ofNat_of_zero_le h0
    simp -implicitDefEqProofs only [WE_ok, WE_bind, WE_ite, WE_no, WS_nx, WS_rt, WS_bk, WS_ct, WS_lift, WS_seq, WS_ite, oRs_some, eVar_ap, eC_ap, eBin_ap, isB_bl, asB_ap, bAnd_ap, bOr_ap, bNot_ap, bTru_ap, eAnd_wp, eOr_wp, eNot_wp, andR_bl, orR_bl, notR_bl, decide_eq_true_eq, gAny_lst, gAll_lst, gSum_lst, chkOf_p, lItems_lst, eNeg_ap, eIf_ap, aNil_ap, aCons_ap, eTup_ap, eLst_ap, eLstO_ap, eB_ap, eCall_ap, eMth_ap, eIsi_ap, eSl_ap, oNone_ap, oSome_ap, eLc_ap, sSeq_ap, sNil_ap, sBrk_ap, sCnt_ap, sExpr_ap, rtO_some, sRetR_ap, sRetN_ap, sIf_ap, sSet_ap, nxG_ok, sAsg_ap, sAug_ap, gNm_ap, sFor_ap, iRgA_ap, iRgB_ap, iTpl_ap, iLst_ap, restD_p', restAll_nil, restAll_cons, gAdd_int, gAdd_str, gAdd_tup, gAdd_lst, gAddI_int, gSub_int, gMul_int, gMod_int, gFdv_int, gPow_int, gLt_int, gLe_int, gGt_int, gGe_int, gEq_int, gEq_str, gEq_bl, atI_nat', atI_0, atI_1, atI_2, atI_3, atI_4, atI_5, gIx_tup, gIx_lst, gIx_scr, gIx_ob, obL_lst, obL_fz, gLen_tup, gLen_lst, gLen_scr, gLen_ob, gToInt_int, gToInt_bl, gToStr_int, truD_bl, gMin2_int, gMax2_int, isLst_ob, isLst_lst, obO_lst, oLst_ob, appO_some, gApp_ap, gSetL_ap, okE_some, setL_ob, ixN_0, ixN_1, sizeLine_val, rngL_length, List.set_cons_zero, List.set_cons_succ, List.getElem?_cons_zero, List.getElem?_cons_succ, Option.join_some, Option.map_some, Option.bind_some, List.length_cons, List.length_nil, Option.isSome_some, if_true, if_false, Bool.false_eq_true, Bool.false_xor, Bool.true_xor, and_self, Nat.reduceAdd, Nat.reduceLeDiff, reduceIte, List.append_nil, Bool.not_true, Bool.not_false, bYes_ap, gIsN_ap, isNoneD_int, isNoneD_none, Bool.not_not, hm, List.length_map]
    rw [if_pos (by omega)]
    exact ⟨b1, v % Ps.length, hb1, Nat.mod_lt _ (by omega), by trivial, by simp⟩
  rintro ρ S1 ⟨b1, k, hb1, hk, rfl, rfl⟩
  have ek : Ps[k]? = some Ps[k] := List.getElem?_eq_getElem hk
  have gk := hg _ (List.getElem_mem hk)
  generalize Ps[k] = pt at ek gk
  refine WS_cut (fun ρ S1 => S1 = S.set n b1 ∧ ρ = [some (.ob n), some (.ob m), some (.str (dirS ac)), some (.int (k : Nat)), some (.p pt.py), none, none, none]) ?_ ?_
  · simp -implicitDefEqProofs only [WE_ok, WE_bind, WE_ite, WE_no, WS_nx, WS_rt, WS_bk, WS_ct, WS_lift, WS_seq, WS_ite, oRs_some, eVar_ap, eC_ap, eBin_ap, isB_bl, asB_ap, bAnd_ap, bOr_ap, bNot_ap, bTru_ap, eAnd_wp, eOr_wp, eNot_wp, andR_bl, orR_bl, notR_bl, decide_eq_true_eq, gAny_lst, gAll_lst, gSum_lst, chkOf_p, lItems_lst, eNeg_ap, eIf_ap, aNil_ap, aCons_ap, eTup_ap, eLst_ap, eLstO_ap, eB_ap, eCall_ap, eMth_ap, eIsi_ap, eSl_ap, oNone_ap, oSome_ap, eLc_ap, sSeq_ap, sNil_ap, sBrk_ap, sCnt_ap, sExpr_ap, rtO_some, sRetR_ap, sRetN_ap, sIf_ap, sSet_ap, nxG_ok, sAsg_ap, sAug_ap, gNm_ap, sFor_ap, iRgA_ap, iRgB_ap, iTpl_ap, iLst_ap, restD_p', restAll_nil, restAll_cons, gAdd_int, gAdd_str, gAdd_tup, gAdd_lst, gAddI_int, gSub_int, gMul_int, gMod_int, gFdv_int, gPow_int, gLt_int, gLe_int, gGt_int, gGe_int, gEq_int, gEq_str, gEq_bl, atI_nat', atI_0, atI_1, atI_2, atI_3, atI_4, atI_5, gIx_tup, gIx_lst, gIx_scr, gIx_ob, obL_lst, obL_fz, gLen_tup, gLen_lst, gLen_scr, gLen_ob, gToInt_int, gToInt_bl, gToStr_int, truD_bl, gMin2_int, gMax2_int, isLst_ob, isLst_lst, obO_lst, oLst_ob, appO_some, gApp_ap, gSetL_ap, okE_some, setL_ob, ixN_0, ixN_1, sizeLine_val, rngL_length, List.set_cons_zero, List.set_cons_succ, List.getElem?_cons_zero, List.getElem?_cons_succ, Option.join_some, Option.map_some, Option.bind_some, List.length_cons, List.length_nil, Option.isSome_some, if_true, if_false, Bool.false_eq_true, Bool.false_xor, Bool.true_xor, and_self, Nat.reduceAdd, Nat.reduceLeDiff, reduceIte, List.append_nil, Bool.not_true, Bool.not_false, bYes_ap, gIsN_ap, isNoneD_int, isNoneD_none, Bool.not_not, hm, List.getElem?_map, ek]
    all_goals exact ⟨by trivial, by trivial⟩
  rintro ρ S1 ⟨rfl, rfl⟩
  refine WS_cut (fun ρ S1 => ∃ b' c, IsBox b' ∧ c < 3 ∧ S1 = S.set n b' ∧ ρ = [some (.ob n), some (.ob m), some (.str (dirS ac)), some (.int (k : Nat)), some (.p pt.py), some (.int (c : Nat)), none, none]) ?_ ?_
  · simp -implicitDefEqProofs only [WE_ok, WE_bind, WE_ite, WE_no, WS_nx, WS_rt, WS_bk, WS_ct, WS_lift, WS_seq, WS_ite, oRs_some, eVar_ap, eC_ap, eBin_ap, isB_bl, asB_ap, bAnd_ap, bOr_ap, bNot_ap, bTru_ap, eAnd_wp, eOr_wp, eNot_wp, andR_bl, orR_bl, notR_bl, decide_eq_true_eq, gAny_lst, gAll_lst, gSum_lst, chkOf_p, lItems_lst, eNeg_ap, eIf_ap, aNil_ap, aCons_ap, eTup_ap, eLst_ap, eLstO_ap, eB_ap, eCall_ap, eMth_ap, eIsi_ap, eSl_ap, oNone_ap, oSome_ap, eLc_ap, sSeq_ap, sNil_ap, sBrk_ap, sCnt_ap, sExpr_ap, rtO_some, sRetR_ap, sRetN_ap, sIf_ap, sSet_ap, nxG_ok, sAsg_ap, sAug_ap, gNm_ap, sFor_ap, iRgA_ap, iRgB_ap, iTpl_ap, iLst_ap, restD_p', restAll_nil, restAll_cons, gAdd_int, gAdd_str, gAdd_tup, gAdd_lst, gAddI_int, gSub_int, gMul_int, gMod_int, gFdv_int, gPow_int, gLt_int, gLe_int, gGt_int, gGe_int, gEq_int, gEq_str, gEq_bl, atI_nat', atI_0, atI_1, atI_2, atI_3, atI_4, atI_5, gIx_tup, gIx_lst, gIx_scr, gIx_ob, obL_lst, obL_fz, gLen_tup, gLen_lst, gLen_scr, gLen_ob, gToInt_int, gToInt_bl, gToStr_int, truD_bl, gMin2_int, gMax2_int, isLst_ob, isLst_lst, obO_lst, oLst_ob, appO_some, gApp_ap, gSetL_ap, okE_some, setL_ob, ixN_0, ixN_1, sizeLine_val, rngL_length, List.set_cons_zero, List.set_cons_succ, List.getElem?_cons_zero, List.getElem?_cons_succ, Option.join_some, Option.map_some, Option.bind_some, List.length_cons, List.length_nil, Option.isSome_some, if_true, if_false, Bool.false_eq_true, Bool.false_xor, Bool.true_xor, and_self, Nat.reduceAdd, Nat.reduceLeDiff, reduceIte, List.append_nil, Bool.not_true, Bool.not_false, bYes_ap, gIsN_ap, isNoneD_int, isNoneD_none, Bool.not_not]
    refine draw_wp (set_get hl) hb1 (by decide) (clS_set hc hb1.cl) fun v b2 h0 h1' hb2 => ?_
    obtain ⟨v, rfl⟩ := Int.eq_ofNat_of_zero_le h0
    simp -implicitDefEqProofs only [WE_ok, WE_bind, WE_ite, WE_no, WS_nx, WS_rt, WS_bk, WS_ct, WS_lift, WS_seq, WS_ite, oRs_some, eVar_ap, eC_ap, eBin_ap, isB_bl, asB_ap, bAnd_ap, bOr_ap, bNot_ap, bTru_ap, eAnd_wp, eOr_wp, eNot_wp, andR_bl, orR_bl, notR_bl, decide_eq_true_eq, gAny_lst, gAll_lst, gSum_lst, chkOf_p, lItems_lst, eNeg_ap, eIf_ap, aNil_ap, aCons_ap, eTup_ap, eLst_ap, eLstO_ap, eB_ap, eCall_ap, eMth_ap, eIsi_ap, eSl_ap, oNone_ap, oSome_ap, eLc_ap, sSeq_ap, sNil_ap, sBrk_ap, sCnt_ap, sExpr_ap, rtO_some, sRetR_ap, sRetN_ap, sIf_ap, sSet_ap, nxG_ok, sAsg_ap, sAug_ap, gNm_ap, sFor_ap, iRgA_ap, iRgB_ap, iTpl_ap, iLst_ap, restD_p', restAll_nil, restAll_cons, gAdd_int, gAdd_str, gAdd_tup, gAdd_lst, gAddI_int, gSub_int, gMul_int, gMod_int, gFdv_int, gPow_int, gLt_int, gLe_int, gGt_int, gGe_int, gEq_int, gEq_str, gEq_bl, atI_nat', atI_0, atI_1, atI_2, atI_3, atI_4, atI_5, gIx_tup, gIx_lst, gIx_scr, gIx_ob, obL_lst, obL_fz, gLen_tup, gLen_lst, gLen_scr, gLen_ob, gToInt_int, gToInt_bl, gToStr_int, truD_bl, gMin2_int, gMax2_int, isLst_ob, isLst_lst, obO_lst, oLst_ob, appO_some, gApp_ap, gSetL_ap, okE_some, setL_ob, ixN_0, ixN_1, sizeLine_val, rngL_length, List.set_cons_zero, List.set_cons_succ, List.getElem?_cons_zero, List.getElem?_cons_succ, Option.join_some, Option.map_some, Option.bind_some, List.length_cons, List.length_nil, Option.isSome_some, if_true, if_false, Bool.false_eq_true, Bool.false_xor, Bool.true_xor, and_self, Nat.reduceAdd, Nat.reduceLeDiff, reduceIte, List.append_nil, Bool.not_true, Bool.not_false, bYes_ap, gIsN_ap, isNoneD_int, isNoneD_none, Bool.not_not, List.set_set]
    exact ⟨b2, v, hb2, by omega, by trivial, by trivial⟩
  rintro ρ S1 ⟨b2, c, hb2, hcc, rfl, rfl⟩
  refine WS_cut (fun ρ S1 => ∃ b', IsBox b' ∧ S1 = S.set n b' ∧ ρ = [some (.ob n), some (.ob m), some (.str (dirS ac)), some (.int (k : Nat)), some (.p pt.py), some (.int (c : Nat)), none, none]) ?_ ?_
  · cases pt with
    | plain nm lab c0 k0 =>
      simp -implicitDefEqProofs only [WE_ok, WE_bind, WE_ite, WE_no, WS_nx, WS_rt, WS_bk, WS_ct, WS_lift, WS_seq, WS_ite, oRs_some, eVar_ap, eC_ap, eBin_ap, isB_bl, asB_ap, bAnd_ap, bOr_ap, bNot_ap, bTru_ap, eAnd_wp, eOr_wp, eNot_wp, andR_bl, orR_bl, notR_bl, decide_eq_true_eq, gAny_lst, gAll_lst, gSum_lst, chkOf_p, lItems_lst, eNeg_ap, eIf_ap, aNil_ap, aCons_ap, eTup_ap, eLst_ap, eLstO_ap, eB_ap, eCall_ap, eMth_ap, eIsi_ap, eSl_ap, oNone_ap, oSome_ap, eLc_ap, sSeq_ap, sNil_ap, sBrk_ap, sCnt_ap, sExpr_ap, rtO_some, sRetR_ap, sRetN_ap, sIf_ap, sSet_ap, nxG_ok, sAsg_ap, sAug_ap, gNm_ap, sFor_ap, iRgA_ap, iRgB_ap, iTpl_ap, iLst_ap, restD_p', restAll_nil, restAll_cons, gAdd_int, gAdd_str, gAdd_tup, gAdd_lst, gAddI_int, gSub_int, gMul_int, gMod_int, gFdv_int, gPow_int, gLt_int, gLe_int, gGt_int, gGe_int, gEq_int, gEq_str, gEq_bl, atI_nat', atI_0, atI_1, atI_2, atI_3, atI_4, atI_5, gIx_tup, gIx_lst, gIx_scr, gIx_ob, obL_lst, obL_fz, gLen_tup, gLen_lst, gLen_scr, gLen_ob, gToInt_int, gToInt_bl, gToStr_int, truD_bl, gMin2_int, gMax2_int, isLst_ob, isLst_lst, obO_lst, oLst_ob, appO_some, gApp_ap, gSetL_ap, okE_some, setL_ob, ixN_0, ixN_1, sizeLine_val, rngL_length, List.set_cons_zero, List.set_cons_succ, List.getElem?_cons_zero, List.getElem?_cons_succ, Option.join_some, Option.map_some, Option.bind_some, List.length_cons, List.length_nil, Option.isSome_some, if_true, if_false, Bool.false_eq_true, Bool.false_xor, Bool.true_xor, and_self, Nat.reduceAdd, Nat.reduceLeDiff, reduceIte, List.append_nil, Bool.not_true, Bool.not_false, bYes_ap, gIsN_ap, isNoneD_int, isNoneD_none, Bool.not_not, Pt.py, s1]
      exact ⟨b2, hb2, by trivial, by trivial⟩
    | strip ac2 nm j e =>
      simp -implicitDefEqProofs only [WE_ok, WE_bind, WE_ite, WE_no, WS_nx, WS_rt, WS_bk, WS_ct, WS_lift, WS_seq, WS_ite, oRs_some, eVar_ap, eC_ap, eBin_ap, isB_bl, asB_ap, bAnd_ap, bOr_ap, bNot_ap, bTru_ap, eAnd_wp, eOr_wp, eNot_wp, andR_bl, orR_bl, notR_bl, decide_eq_true_eq, gAny_lst, gAll_lst, gSum_lst, chkOf_p, lItems_lst, eNeg_ap, eIf_ap, aNil_ap, aCons_ap, eTup_ap, eLst_ap, eLstO_ap, eB_ap, eCall_ap, eMth_ap, eIsi_ap, eSl_ap, oNone_ap, oSome_ap, eLc_ap, sSeq_ap, sNil_ap, sBrk_ap, sCnt_ap, sExpr_ap, rtO_some, sRetR_ap, sRetN_ap, sIf_ap, sSet_ap, nxG_ok, sAsg_ap, sAug_ap, gNm_ap, sFor_ap, iRgA_ap, iRgB_ap, iTpl_ap, iLst_ap, restD_p', restAll_nil, restAll_cons, gAdd_int, gAdd_str, gAdd_tup, gAdd_lst, gAddI_int, gSub_int, gMul_int, gMod_int, gFdv_int, gPow_int, gLt_int, gLe_int, gGt_int, gGe_int, gEq_int, gEq_str, gEq_bl, atI_nat', atI_0, atI_1, atI_2, atI_3, atI_4, atI_5, gIx_tup, gIx_lst, gIx_scr, gIx_ob, obL_lst, obL_fz, gLen_tup, gLen_lst, gLen_scr, gLen_ob, gToInt_int, gToInt_bl, gToStr_int, truD_bl, gMin2_int, gMax2_int, isLst_ob, isLst_lst, obO_lst, oLst_ob, appO_some, gApp_ap, gSetL_ap, okE_some, setL_ob, ixN_0, ixN_1, sizeLine_val, rngL_length, List.set_cons_zero, List.set_cons_succ, List.getElem?_cons_zero, List.getElem?_cons_succ, Option.join_some, Option.map_some, Option.bind_some, List.length_cons, List.length_nil, Option.isSome_some, if_true, if_false, Bool.false_eq_true, Bool.false_xor, Bool.true_xor, and_self, Nat.reduceAdd, Nat.reduceLeDiff, reduceIte, List.append_nil, Bool.not_true, Bool.not_false, bYes_ap, gIsN_ap, isNoneD_int, isNoneD_none, Bool.not_not, Pt.py, s5]
      exact ⟨b2, hb2, by trivial, by trivial⟩
    | shape nm lab c0 w h rows =>
      obtain ⟨g1, g2, g3, g4, g5, g6⟩ := gk
      simp -implicitDefEqProofs only [WE_ok, WE_bind, WE_ite, WE_no, WS_nx, WS_rt, WS_bk, WS_ct, WS_lift, WS_seq, WS_ite, oRs_some, eVar_ap, eC_ap, eBin_ap, isB_bl, asB_ap, bAnd_ap, bOr_ap, bNot_ap, bTru_ap, eAnd_wp, eOr_wp, eNot_wp, andR_bl, orR_bl, notR_bl, decide_eq_true_eq, gAny_lst, gAll_lst, gSum_lst, chkOf_p, lItems_lst, eNeg_ap, eIf_ap, aNil_ap, aCons_ap, eTup_ap, eLst_ap, eLstO_ap, eB_ap, eCall_ap, eMth_ap, eIsi_ap, eSl_ap, oNone_ap, oSome_ap, eLc_ap, sSeq_ap, sNil_ap, sBrk_ap, sCnt_ap, sExpr_ap, rtO_some, sRetR_ap, sRetN_ap, sIf_ap, sSet_ap, nxG_ok, sAsg_ap, sAug_ap, gNm_ap, sFor_ap, iRgA_ap, iRgB_ap, iTpl_ap, iLst_ap, restD_p', restAll_nil, restAll_cons, gAdd_int, gAdd_str, gAdd_tup, gAdd_lst, gAddI_int, gSub_int, gMul_int, gMod_int, gFdv_int, gPow_int, gLt_int, gLe_int, gGt_int, gGe_int, gEq_int, gEq_str, gEq_bl, atI_nat', atI_0, atI_1, atI_2, atI_3, atI_4, atI_5, gIx_tup, gIx_lst, gIx_scr, gIx_ob, obL_lst, obL_fz, gLen_tup, gLen_lst, gLen_scr, gLen_ob, gToInt_int, gToInt_bl, gToStr_int, truD_bl, gMin2_int, gMax2_int, isLst_ob, isLst_lst, obO_lst, oLst_ob, appO_some, gApp_ap, gSetL_ap, okE_some, setL_ob, ixN_0, ixN_1, sizeLine_val, rngL_length, List.set_cons_zero, List.set_cons_succ, List.getElem?_cons_zero, List.getElem?_cons_succ, Option.join_some, Option.map_some, Option.bind_some, List.length_cons, List.length_nil, Option.isSome_some, if_true, if_false, Bool.false_eq_true, Bool.false_xor, Bool.true_xor, and_self, Nat.reduceAdd, Nat.reduceLeDiff, reduceIte, List.append_nil, Bool.not_true, Bool.not_false, bYes_ap, gIsN_ap, isNoneD_int, isNoneD_none, Bool.not_not, Pt.py, beq_self_eq_true]
      refine draw_wp (set_get hl) hb2 (by decide) (clS_set hc hb2.cl) fun v b3 h0 h1' hb3 => ?_
      by_cases hv : 0 < v
      · have er : ∃ r, rows[0]? = some r ∧ r.length = w := by
          have hl0 : 0 < rows.length := by rw [g2.1]; omega
          exact ⟨rows[0], List.getElem?_eq_getElem hl0, (g2.2 _ (List.getElem_mem hl0)).1⟩
        obtain ⟨r, er, lr⟩ := er
        have z1 : w ≤ 16777216 := by omega
        cases ac with
        | true =>
          simp -implicitDefEqProofs only [WE_ok, WE_bind, WE_ite, WE_no, WS_nx, WS_rt, WS_bk, WS_ct, WS_lift, WS_seq, WS_ite, oRs_some, eVar_ap, eC_ap, eBin_ap, isB_bl, asB_ap, bAnd_ap, bOr_ap, bNot_ap, bTru_ap, eAnd_wp, eOr_wp, eNot_wp, andR_bl, orR_bl, notR_bl, decide_eq_true_eq, gAny_lst, gAll_lst, gSum_lst, chkOf_p, lItems_lst, eNeg_ap, eIf_ap, aNil_ap, aCons_ap, eTup_ap, eLst_ap, eLstO_ap, eB_ap, eCall_ap, eMth_ap, eIsi_ap, eSl_ap, oNone_ap, oSome_ap, eLc_ap, sSeq_ap, sNil_ap, sBrk_ap, sCnt_ap, sExpr_ap, rtO_some, sRetR_ap, sRetN_ap, sIf_ap, sSet_ap, nxG_ok, sAsg_ap, sAug_ap, gNm_ap, sFor_ap, iRgA_ap, iRgB_ap, iTpl_ap, iLst_ap, restD_p', restAll_nil, restAll_cons, gAdd_int, gAdd_str, gAdd_tup, gAdd_lst, gAddI_int, gSub_int, gMul_int, gMod_int, gFdv_int, gPow_int, gLt_int, gLe_int, gGt_int, gGe_int, gEq_int, gEq_str, gEq_bl, atI_nat', atI_0, atI_1, atI_2, atI_3, atI_4, atI_5, gIx_tup, gIx_lst, gIx_scr, gIx_ob, obL_lst, obL_fz, gLen_tup, gLen_lst, gLen_scr, gLen_ob, gToInt_int, gToInt_bl, gToStr_int, truD_bl, gMin2_int, gMax2_int, isLst_ob, isLst_lst, obO_lst, oLst_ob, appO_some, gApp_ap, gSetL_ap, okE_some, setL_ob, ixN_0, ixN_1, sizeLine_val, rngL_length, List.set_cons_zero, List.set_cons_succ, List.getElem?_cons_zero, List.getElem?_cons_succ, Option.join_some, Option.map_some, Option.bind_some, List.length_cons, List.length_nil, Option.isSome_some, if_true, if_false, Bool.false_eq_true, Bool.false_xor, Bool.true_xor, and_self, Nat.reduceAdd, Nat.reduceLeDiff, reduceIte, List.append_nil, Bool.not_true, Bool.not_false, bYes_ap, gIsN_ap, isNoneD_int, isNoneD_none, Bool.not_not, List.set_set, hv, decide_true, dirS, beq_self_eq_true, List.getElem?_map, er, gLen_str, sx_len, lr, z1]
          exact ⟨b3, k, w, w, c, hb3, ⟨hk, g3, by omega, g4, hcc⟩, by trivial, by trivial⟩
        | false =>
          simp -implicitDefEqProofs only [WE_ok, WE_bind, WE_ite, WE_no, WS_nx, WS_rt, WS_bk, WS_ct, WS_lift, WS_seq, WS_ite, oRs_some, eVar_ap, eC_ap, eBin_ap, isB_bl, asB_ap, bAnd_ap, bOr_ap, bNot_ap, bTru_ap, eAnd_wp, eOr_wp, eNot_wp, andR_bl, orR_bl, notR_bl, decide_eq_true_eq, gAny_lst, gAll_lst, gSum_lst, chkOf_p, lItems_lst, eNeg_ap, eIf_ap, aNil_ap, aCons_ap, eTup_ap, eLst_ap, eLstO_ap, eB_ap, eCall_ap, eMth_ap, eIsi_ap, eSl_ap, oNone_ap, oSome_ap, eLc_ap, sSeq_ap, sNil_ap, sBrk_ap, sCnt_ap, sExpr_ap, rtO_some, sRetR_ap, sRetN_ap, sIf_ap, sSet_ap, nxG_ok, sAsg_ap, sAug_ap, gNm_ap, sFor_ap, iRgA_ap, iRgB_ap, iTpl_ap, iLst_ap, restD_p', restAll_nil, restAll_cons, gAdd_int, gAdd_str, gAdd_tup, gAdd_lst, gAddI_int, gSub_int, gMul_int, gMod_int, gFdv_int, gPow_int, gLt_int, gLe_int, gGt_int, gGe_int, gEq_int, gEq_str, gEq_bl, atI_nat', atI_0, atI_1, atI_2, atI_3, atI_4, atI_5, gIx_tup, gIx_lst, gIx_scr, gIx_ob, obL_lst, obL_fz, gLen_tup, gLen_lst, gLen_scr, gLen_ob, gToInt_int, gToInt_bl, gToStr_int, truD_bl, gMin2_int, gMax2_int, isLst_ob, isLst_lst, obO_lst, oLst_ob, appO_some, gApp_ap, gSetL_ap, okE_some, setL_ob, ixN_0, ixN_1, sizeLine_val, rngL_length, List.set_cons_zero, List.set_cons_succ, List.getElem?_cons_zero, List.getElem?_cons_succ, Option.join_some, Option.map_some, Option.bind_some, List.length_cons, List.length_nil, Option.isSome_some, if_true, if_false, Bool.false_eq_true, Bool.false_xor, Bool.true_xor, and_self, Nat.reduceAdd, Nat.reduceLeDiff, reduceIte, List.append_nil, Bool.not_true, Bool.not_false, bYes_ap, gIsN_ap, isNoneD_int, isNoneD_none, Bool.not_not, List.set_set, hv, decide_true, dirS, s4, List.length_map, g2.1]
          exact ⟨b3, k, h, h, c, hb3, ⟨hk, g5, by omega, g6, hcc⟩, by trivial, by trivial⟩
      · simp -implicitDefEqProofs only [WE_ok, WE_bind, WE_ite, WE_no, WS_nx, WS_rt, WS_bk, WS_ct, WS_lift, WS_seq, WS_ite, oRs_some, eVar_ap, eC_ap, eBin_ap, isB_bl, asB_ap, bAnd_ap, bOr_ap, bNot_ap, bTru_ap, eAnd_wp, eOr_wp, eNot_wp, andR_bl, orR_bl, notR_bl, decide_eq_true_eq, gAny_lst, gAll_lst, gSum_lst, chkOf_p, lItems_lst, eNeg_ap, eIf_ap, aNil_ap, aCons_ap, eTup_ap, eLst_ap, eLstO_ap, eB_ap, eCall_ap, eMth_ap, eIsi_ap, eSl_ap, oNone_ap, oSome_ap, eLc_ap, sSeq_ap, sNil_ap, sBrk_ap, sCnt_ap, sExpr_ap, rtO_some, sRetR_ap, sRetN_ap, sIf_ap, sSet_ap, nxG_ok, sAsg_ap, sAug_ap, gNm_ap, sFor_ap, iRgA_ap, iRgB_ap, iTpl_ap, iLst_ap, restD_p', restAll_nil, restAll_cons, gAdd_int, gAdd_str, gAdd_tup, gAdd_lst, gAddI_int, gSub_int, gMul_int, gMod_int, gFdv_int, gPow_int, gLt_int, gLe_int, gGt_int, gGe_int, gEq_int, gEq_str, gEq_bl, atI_nat', atI_0, atI_1, atI_2, atI_3, atI_4, atI_5, gIx_tup, gIx_lst, gIx_scr, gIx_ob, obL_lst, obL_fz, gLen_tup, gLen_lst, gLen_scr, gLen_ob, gToInt_int, gToInt_bl, gToStr_int, truD_bl, gMin2_int, gMax2_int, isLst_ob, isLst_lst, obO_lst, oLst_ob, appO_some, gApp_ap, gSetL_ap, okE_some, setL_ob, ixN_0, ixN_1, sizeLine_val, rngL_length, List.set_cons_zero, List.set_cons_succ, List.getElem?_cons_zero, List.getElem?_cons_succ, Option.join_some, Option.map_some, Option.bind_some, List.length_cons, List.length_nil, Option.isSome_some, if_true, if_false, Bool.false_eq_true, Bool.false_xor, Bool.true_xor, and_self, Nat.reduceAdd, Nat.reduceLeDiff, reduceIte, List.append_nil, Bool.not_true, Bool.not_false, bYes_ap, gIsN_ap, isNoneD_int, isNoneD_none, Bool.not_not, List.set_set, hv, decide_false]
        exact ⟨b3, hb3, by trivial, by trivial⟩
  rintro ρ S1 ⟨b3, hb3, rfl, rfl⟩
  simp -implicitDefEqProofs only [WE_ok, WE_bind, WE_ite, WE_no, WS_nx, WS_rt, WS_bk, WS_ct, WS_lift, WS_seq, WS_ite, oRs_some, eVar_ap, eC_ap, eBin_ap, isB_bl, asB_ap, bAnd_ap, bOr_ap, bNot_ap, bTru_ap, eAnd_wp, eOr_wp, eNot_wp, andR_bl, orR_bl, notR_bl, decide_eq_true_eq, gAny_lst, gAll_lst, gSum_lst, chkOf_p, lItems_lst, eNeg_ap, eIf_ap, aNil_ap, aCons_ap, eTup_ap, eLst_ap, eLstO_ap, eB_ap, eCall_ap, eMth_ap, eIsi_ap, eSl_ap, oNone_ap, oSome_ap, eLc_ap, sSeq_ap, sNil_ap, sBrk_ap, sCnt_ap, sExpr_ap, rtO_some, sRetR_ap, sRetN_ap, sIf_ap, sSet_ap, nxG_ok, sAsg_ap, sAug_ap, gNm_ap, sFor_ap, iRgA_ap, iRgB_ap, iTpl_ap, iLst_ap, restD_p', restAll_nil, restAll_cons, gAdd_int, gAdd_str, gAdd_tup, gAdd_lst, gAddI_int, gSub_int, gMul_int, gMod_int, gFdv_int, gPow_int, gLt_int, gLe_int, gGt_int, gGe_int, gEq_int, gEq_str, gEq_bl, atI_nat', atI_0, atI_1, atI_2, atI_3, atI_4, atI_5, gIx_tup, gIx_lst, gIx_scr, gIx_ob, obL_lst, obL_fz, gLen_tup, gLen_lst, gLen_scr, gLen_ob, gToInt_int, gToInt_bl, gToStr_int, truD_bl, gMin2_int, gMax2_int, isLst_ob, isLst_lst, obO_lst, oLst_ob, appO_some, gApp_ap, gSetL_ap, okE_some, setL_ob, ixN_0, ixN_1, sizeLine_val, rngL_length, List.set_cons_zero, List.set_cons_succ, List.getElem?_cons_zero, List.getElem?_cons_succ, Option.join_some, Option.map_some, Option.bind_some, List.length_cons, List.length_nil, Option.isSome_some, if_true, if_false, Bool.false_eq_true, Bool.false_xor, Bool.true_xor, and_self, Nat.reduceAdd, Nat.reduceLeDiff, reduceIte, List.append_nil, Bool.not_true, Bool.not_false, bYes_ap, gIsN_ap, isNoneD_int, isNoneD_none, Bool.not_not]
  refine draw_wp (set_get hl) hb3 (by decide) (clS_set hc hb3.cl) fun v b4 h0 h1' hb4 => ?_
  simp -implicitDefEqProofs only [WE_ok, WE_bind, WE_ite, WE_no, WS_nx, WS_rt, WS_bk, WS_ct, WS_lift, WS_seq, WS_ite, oRs_some, eVar_ap, eC_ap, eBin_ap, isB_bl, asB_ap, bAnd_ap, bOr_ap, bNot_ap, bTru_ap, eAnd_wp, eOr_wp, eNot_wp, andR_bl, orR_bl, notR_bl, decide_eq_true_eq, gAny_lst, gAll_lst, gSum_lst, chkOf_p, lItems_lst, eNeg_ap, eIf_ap, aNil_ap, aCons_ap, eTup_ap, eLst_ap, eLstO_ap, eB_ap, eCall_ap, eMth_ap, eIsi_ap, eSl_ap, oNone_ap, oSome_ap, eLc_ap, sSeq_ap, sNil_ap, sBrk_ap, sCnt_ap, sExpr_ap, rtO_some, sRetR_ap, sRetN_ap, sIf_ap, sSet_ap, nxG_ok, sAsg_ap, sAug_ap, gNm_ap, sFor_ap, iRgA_ap, iRgB_ap, iTpl_ap, iLst_ap, restD_p', restAll_nil, restAll_cons, gAdd_int, gAdd_str, gAdd_tup, gAdd_lst, gAddI_int, gSub_int, gMul_int, gMod_int, gFdv_int, gPow_int, gLt_int, gLe_int, gGt_int, gGe_int, gEq_int, gEq_str, gEq_bl, atI_nat', atI_0, atI_1, atI_2, atI_3, atI_4, atI_5, gIx_tup, gIx_lst, gIx_scr, gIx_ob, obL_lst, obL_fz, gLen_tup, gLen_lst, gLen_scr, gLen_ob, gToInt_int, gToInt_bl, gToStr_int, truD_bl, gMin2_int, gMax2_int, isLst_ob, isLst_lst, obO_lst, oLst_ob, appO_some, gApp_ap, gSetL_ap, okE_some, setL_ob, ixN_0, ixN_1, sizeLine_val, rngL_length, List.set_cons_zero, List.set_cons_succ, List.getElem?_cons_zero, List.getElem?_cons_succ, Option.join_some, Option.map_some, Option.bind_some, List.length_cons, List.length_nil, Option.isSome_some, if_true, if_false, Bool.false_eq_true, Bool.false_xor, Bool.true_xor, and_self, Nat.reduceAdd, Nat.reduceLeDiff, reduceIte, List.append_nil, Bool.not_true, Bool.not_false, bYes_ap, gIsN_ap, isNoneD_int, isNoneD_none, Bool.not_not, List.set_set]
  refine draw_wp (set_get hl) hb4 (by decide) (clS_set hc hb4.cl) fun v2 b5 h20 h21 hb5 => ?_
  obtain ⟨v, rfl⟩ := Int.eq_ofNat_of_zero_le h0
  obtain ⟨v2, rfl⟩ := Int.eq_ofNat_of_zero_le h20
  simp -implicitDefEqProofs only [WE_ok, WE_bind, WE_ite, WE_no, WS_nx, WS_rt, WS_bk, WS_ct, WS_lift, WS_seq, WS_ite, oRs_some, eVar_ap, eC_ap, eBin_ap, isB_bl, asB_ap, bAnd_ap, bOr_ap, bNot_ap, bTru_ap, eAnd_wp, eOr_wp, eNot_wp, andR_bl, orR_bl, notR_bl, decide_eq_true_eq, gAny_lst, gAll_lst, gSum_lst, chkOf_p, lItems_lst, eNeg_ap, eIf_ap, aNil_ap, aCons_ap, eTup_ap, eLst_ap, eLstO_ap, eB_ap, eCall_ap, eMth_ap, eIsi_ap, eSl_ap, oNone_ap, oSome_ap, eLc_ap, sSeq_ap, sNil_ap, sBrk_ap, sCnt_ap, sExpr_ap, rtO_some, sRetR_ap, sRetN_ap, sIf_ap, sSet_ap, nxG_ok, sAsg_ap, sAug_ap, gNm_ap, sFor_ap, iRgA_ap, iRgB_ap, iTpl_ap, iLst_ap, restD_p', restAll_nil, restAll_cons, gAdd_int, gAdd_str, gAdd_tup, gAdd_lst, gAddI_int, gSub_int, gMul_int, gMod_int, gFdv_int, gPow_int, gLt_int, gLe_int, gGt_int, gGe_int, gEq_int, gEq_str, gEq_bl, atI_nat', atI_0, atI_1, atI_2, atI_3, atI_4, atI_5, gIx_tup, gIx_lst, gIx_scr, gIx_ob, obL_lst, obL_fz, gLen_tup, gLen_lst, gLen_scr, gLen_ob, gToInt_int, gToInt_bl, gToStr_int, truD_bl, gMin2_int, gMax2_int, isLst_ob, isLst_lst, obO_lst, oLst_ob, appO_some, gApp_ap, gSetL_ap, okE_some, setL_ob, ixN_0, ixN_1, sizeLine_val, rngL_length, List.set_cons_zero, List.set_cons_succ, List.getElem?_cons_zero, List.getElem?_cons_succ, Option.join_some, Option.map_some, Option.bind_some, List.length_cons, List.length_nil, Option.isSome_some, if_true, if_false, Bool.false_eq_true, Bool.false_xor, Bool.true_xor, and_self, Nat.reduceAdd, Nat.reduceLeDiff, reduceIte, List.append_nil, Bool.not_true, Bool.not_false, bYes_ap, gIsN_ap, isNoneD_int, isNoneD_none, Bool.not_not, List.set_set]
  exact ⟨b5, k, 1 + v, 1 + v + v2, c, hb5, ⟨hk, by omega, by omega, by omega, hcc⟩, by simp [Ex.py], by trivial⟩
theorem choice_wp {Ps : List Pt} {ac : Bool} (hnm : n ≠ m) (hg : ∀ p ∈ Ps, p.g16) (h1 : 1 ≤ Ps.length) (h2 : Ps.length < 100) : ∀ (d f : Nat) {S : Sto} {b : O} {Q : D → Sto → Prop} {E : Xc → Sto → Prop}, S[n]? = some b → S[m]? = some (pyL Ps) → IsBox b → ClS 0 S → d < f → d < 10 →
    (∀ b' e, IsBox b' → Ex.ok Ps.length d e → Q (.p e.py) (S.set n b')) → WE (G_law_choice f [.ob n, .ob m, .str (dirS ac), .int d] S) Q E := by
  intro d
  induction d with
  | zero =>
    intro f S b Q E hs hp hb hc hf hd q
    obtain ⟨f, rfl⟩ : ∃ f', f = f' + 1 := ⟨f - 1, by omega⟩
    have hl : n < S.length := (List.getElem?_eq_some_iff.mp hs).1
    have hm : ∀ b' : O, (S.set n b')[m]? = some (pyL Ps) := fun b' => by rw [set_get_ne hnm]; exact hp
    refine WE_def (fun d S' => ∃ b' e, IsBox b' ∧ Ex.ok Ps.length 0 e ∧ d = .p e.py ∧ S' = S.set n b') ?_ (fun d S' ⟨b', e, hb', ho, e1, e2⟩ => ⟨_, S.set n b', [], e1, by rw [e2, List.append_nil], by simp, clS_set hc hb'.cl, q b' e hb' ho⟩)
    rw [show start0 NN_law_choice [.ob n, .ob m, .str (dirS ac), .int (0 : Nat)] = [some (.ob n), some (.ob m), some (.str (dirS ac)), some (.int (0 : Nat)), none, none, none] from rfl]
    unfold B_law_choice
    simp -implicitDefEqProofs only [WE_ok, WE_bind, WE_ite, WE_no, WS_nx, WS_rt, WS_bk, WS_ct, WS_lift, WS_seq, WS_ite, oRs_some, eVar_ap, eC_ap, eBin_ap, isB_bl, asB_ap, bAnd_ap, bOr_ap, bNot_ap, bTru_ap, eAnd_wp, eOr_wp, eNot_wp, andR_bl, orR_bl, notR_bl, decide_eq_true_eq, gAny_lst, gAll_lst, gSum_lst, chkOf_p, lItems_lst, eNeg_ap, eIf_ap, aNil_ap, aCons_ap, eTup_ap, eLst_ap, eLstO_ap, eB_ap, eCall_ap, eMth_ap, eIsi_ap, eSl_ap, oNone_ap, oSome_ap, eLc_ap, sSeq_ap, sNil_ap, sBrk_ap, sCnt_ap, sExpr_ap, rtO_some, sRetR_ap, sRetN_ap, sIf_ap, sSet_ap, nxG_ok, sAsg_ap, sAug_ap, gNm_ap, sFor_ap, iRgA_ap, iRgB_ap, iTpl_ap, iLst_ap, restD_p', restAll_nil, restAll_cons, gAdd_int, gAdd_str, gAdd_tup, gAdd_lst, gAddI_int, gSub_int, gMul_int, gMod_int, gFdv_int, gPow_int, gLt_int, gLe_int, gGt_int, gGe_int, gEq_int, gEq_str, gEq_bl, atI_nat', atI_0, atI_1, atI_2, atI_3, atI_4, atI_5, gIx_tup, gIx_lst, gIx_scr, gIx_ob, obL_lst, obL_fz, gLen_tup, gLen_lst, gLen_scr, gLen_ob, gToInt_int, gToInt_bl, gToStr_int, truD_bl, gMin2_int, gMax2_int, isLst_ob, isLst_lst, obO_lst, oLst_ob, appO_some, gApp_ap, gSetL_ap, okE_some, setL_ob, ixN_0, ixN_1, sizeLine_val, rngL_length, List.set_cons_zero, List.set_cons_succ, List.getElem?_cons_zero, List.getElem?_cons_succ, Option.join_some, Option.map_some, Option.bind_some, List.length_cons, List.length_nil, Option.isSome_some, if_true, if_false, Bool.false_eq_true, Bool.false_xor, Bool.true_xor, and_self, Nat.reduceAdd, Nat.reduceLeDiff, reduceIte, List.append_nil, Bool.not_true, Bool.not_false, bYes_ap, gIsN_ap, isNoneD_int, isNoneD_none, Bool.not_not]
    refine draw_wp hs hb (by decide) hc fun v b1 h0 h1' hb1 => ?_
    simp -implicitDefEqProofs only [WE_ok, WE_bind, WE_ite, WE_no, WS_nx, WS_rt, WS_bk, WS_ct, WS_lift, WS_seq, WS_ite, oRs_some, eVar_ap, eC_ap, eBin_ap, isB_bl, asB_ap, bAnd_ap, bOr_ap, bNot_ap, bTru_ap, eAnd_wp, eOr_wp, eNot_wp, andR_bl, orR_bl, notR_bl, decide_eq_true_eq, gAny_lst, gAll_lst, gSum_lst, chkOf_p, lItems_lst, eNeg_ap, eIf_ap, aNil_ap, aCons_ap, eTup_ap, eLst_ap, eLstO_ap, eB_ap, eCall_ap, eMth_ap, eIsi_ap, eSl_ap, oNone_ap, oSome_ap, eLc_ap, sSeq_ap, sNil_ap, sBrk_ap, sCnt_ap, sExpr_ap, rtO_some, sRetR_ap, sRetN_ap, sIf_ap, sSet_ap, nxG_ok, sAsg_ap, sAug_ap, gNm_ap, sFor_ap, iRgA_ap, iRgB_ap, iTpl_ap, iLst_ap, restD_p', restAll_nil, restAll_cons, gAdd_int, gAdd_str, gAdd_tup, gAdd_lst, gAddI_int, gSub_int, gMul_int, gMod_int, gFdv_int, gPow_int, gLt_int, gLe_int, gGt_int, gGe_int, gEq_int, gEq_str, gEq_bl, atI_nat', atI_0, atI_1, atI_2, atI_3, atI_4, atI_5, gIx_tup, gIx_lst, gIx_scr, gIx_ob, obL_lst, obL_fz, gLen_tup, gLen_lst, gLen_scr, gLen_ob, gToInt_int, gToInt_bl, gToStr_int, truD_bl, gMin2_int, gMax2_int, isLst_ob, isLst_lst, obO_lst, oLst_ob, appO_some, gApp_ap, gSetL_ap, okE_some, setL_ob, ixN_0, ixN_1, sizeLine_val, rngL_length, List.set_cons_zero, List.set_cons_succ, List.getElem?_cons_zero, List.getElem?_cons_succ, Option.join_some, Option.map_some, Option.bind_some, List.length_cons, List.length_nil, Option.isSome_some, if_true, if_false, Bool.false_eq_true, Bool.false_xor, Bool.true_xor, and_self, Nat.reduceAdd, Nat.reduceLeDiff, reduceIte, List.append_nil, Bool.not_true, Bool.not_false, bYes_ap, gIsN_ap, isNoneD_int, isNoneD_none, Bool.not_not, Int.natCast_zero, beq_self_eq_true]
    refine place_wp (set_get hl) (hm b1) hnm hb1 (clS_set hc hb1.cl) hg h1 h2 fun b2 p lo hi c hb2 ho => ?_
    simp -implicitDefEqProofs only [WE_ok, WE_bind, WE_ite, WE_no, WS_nx, WS_rt, WS_bk, WS_ct, WS_lift, WS_seq, WS_ite, oRs_some, eVar_ap, eC_ap, eBin_ap, isB_bl, asB_ap, bAnd_ap, bOr_ap, bNot_ap, bTru_ap, eAnd_wp, eOr_wp, eNot_wp, andR_bl, orR_bl, notR_bl, decide_eq_true_eq, gAny_lst, gAll_lst, gSum_lst, chkOf_p, lItems_lst, eNeg_ap, eIf_ap, aNil_ap, aCons_ap, eTup_ap, eLst_ap, eLstO_ap, eB_ap, eCall_ap, eMth_ap, eIsi_ap, eSl_ap, oNone_ap, oSome_ap, eLc_ap, sSeq_ap, sNil_ap, sBrk_ap, sCnt_ap, sExpr_ap, rtO_some, sRetR_ap, sRetN_ap, sIf_ap, sSet_ap, nxG_ok, sAsg_ap, sAug_ap, gNm_ap, sFor_ap, iRgA_ap, iRgB_ap, iTpl_ap, iLst_ap, restD_p', restAll_nil, restAll_cons, gAdd_int, gAdd_str, gAdd_tup, gAdd_lst, gAddI_int, gSub_int, gMul_int, gMod_int, gFdv_int, gPow_int, gLt_int, gLe_int, gGt_int, gGe_int, gEq_int, gEq_str, gEq_bl, atI_nat', atI_0, atI_1, atI_2, atI_3, atI_4, atI_5, gIx_tup, gIx_lst, gIx_scr, gIx_ob, obL_lst, obL_fz, gLen_tup, gLen_lst, gLen_scr, gLen_ob, gToInt_int, gToInt_bl, gToStr_int, truD_bl, gMin2_int, gMax2_int, isLst_ob, isLst_lst, obO_lst, oLst_ob, appO_some, gApp_ap, gSetL_ap, okE_some, setL_ob, ixN_0, ixN_1, sizeLine_val, rngL_length, List.set_cons_zero, List.set_cons_succ, List.getElem?_cons_zero, List.getElem?_cons_succ, Option.join_some, Option.map_some, Option.bind_some, List.length_cons, List.length_nil, Option.isSome_some, if_true, if_false, Bool.false_eq_true, Bool.false_xor, Bool.true_xor, and_self, Nat.reduceAdd, Nat.reduceLeDiff, reduceIte, List.append_nil, Bool.not_true, Bool.not_false, bYes_ap, gIsN_ap, isNoneD_int, isNoneD_none, Bool.not_not, List.set_set]
    exact ⟨b2, _, hb2, ho, by trivial, by trivial⟩
  | succ d ih =>
    intro f S b Q E hs hp hb hc hf hd q
    obtain ⟨f, rfl⟩ : ∃ f', f = f' + 1 := ⟨f - 1, by omega⟩
    have hl : n < S.length := (List.getElem?_eq_some_iff.mp hs).1
    have hm : ∀ b' : O, (S.set n b')[m]? = some (pyL Ps) := fun b' => by rw [set_get_ne hnm]; exact hp
    refine WE_def (fun dd S' => ∃ b' e, IsBox b' ∧ Ex.ok Ps.length (d + 1) e ∧ dd = .p e.py ∧ S' = S.set n b') ?_ (fun d S' ⟨b', e, hb', ho, e1, e2⟩ => ⟨_, S.set n b', [], e1, by rw [e2, List.append_nil], by simp, clS_set hc hb'.cl, q b' e hb' ho⟩)
    rw [show start0 NN_law_choice [.ob n, .ob m, .str (dirS ac), .int ((d + 1 : Nat) : Int)] = [some (.ob n), some (.ob m), some (.str (dirS ac)), some (.int ((d + 1 : Nat) : Int)), none, none, none] from rfl]
    unfold B_law_choice
    have ed : (((d + 1 : Nat) : Int) == 0) = false := beq_eq_false_iff_ne.mpr (by omega)
    have ed2 : ((d + 1 : Nat) : Int) - 1 = (d : Nat) := by omega
    refine WS_cut (fun ρ S1 => ∃ b' kind, IsBox b' ∧ kind < 8 ∧ S1 = S.set n b' ∧ ρ = [some (.ob n), some (.ob m), some (.str (dirS ac)), some (.int ((d + 1 : Nat) : Int)), some (.int (kind : Nat)), none, none]) ?_ ?_
    · simp -implicitDefEqProofs only [WE_ok, WE_bind, WE_ite, WE_no, WS_nx, WS_rt, WS_bk, WS_ct, WS_lift, WS_seq, WS_ite, oRs_some, eVar_ap, eC_ap, eBin_ap, isB_bl, asB_ap, bAnd_ap, bOr_ap, bNot_ap, bTru_ap, eAnd_wp, eOr_wp, eNot_wp, andR_bl, orR_bl, notR_bl, decide_eq_true_eq, gAny_lst, gAll_lst, gSum_lst, chkOf_p, lItems_lst, eNeg_ap, eIf_ap, aNil_ap, aCons_ap, eTup_ap, eLst_ap, eLstO_ap, eB_ap, eCall_ap, eMth_ap, eIsi_ap, eSl_ap, oNone_ap, oSome_ap, eLc_ap, sSeq_ap, sNil_ap, sBrk_ap, sCnt_ap, sExpr_ap, rtO_some, sRetR_ap, sRetN_ap, sIf_ap, sSet_ap, nxG_ok, sAsg_ap, sAug_ap, gNm_ap, sFor_ap, iRgA_ap, iRgB_ap, iTpl_ap, iLst_ap, restD_p', restAll_nil, restAll_cons, gAdd_int, gAdd_str, gAdd_tup, gAdd_lst, gAddI_int, gSub_int, gMul_int, gMod_int, gFdv_int, gPow_int, gLt_int, gLe_int, gGt_int, gGe_int, gEq_int, gEq_str, gEq_bl, atI_nat', atI_0, atI_1, atI_2, atI_3, atI_4, atI_5, gIx_tup, gIx_lst, gIx_scr, gIx_ob, obL_lst, obL_fz, gLen_tup, gLen_lst, gLen_scr, gLen_ob, gToInt_int, gToInt_bl, gToStr_int, truD_bl, gMin2_int, gMax2_int, isLst_ob, isLst_lst, obO_lst, oLst_ob, appO_some, gApp_ap, gSetL_ap, okE_some, setL_ob, ixN_0, ixN_1, sizeLine_val, rngL_length, List.set_cons_zero, List.set_cons_succ, List.getElem?_cons_zero, List.getElem?_cons_succ, Option.join_some, Option.map_some, Option.bind_some, List.length_cons, List.length_nil, Option.isSome_some, if_true, if_false, Bool.false_eq_true, Bool.false_xor, Bool.true_xor, and_self, Nat.reduceAdd, Nat.reduceLeDiff, reduceIte, List.append_nil, Bool.not_true, Bool.not_false, bYes_ap, gIsN_ap, isNoneD_int, isNoneD_none, Bool.not_not]
      refine draw_wp hs hb (by decide) hc fun v b1 h0 h1' hb1 => ?_
      obtain ⟨v, rfl⟩ := Int.eq_ofNat_of_zero_le h0
      try simp -implicitDefEqProofs only [WE_ok, WE_bind, WE_ite, WE_no, WS_nx, WS_rt, WS_bk, WS_ct, WS_lift, WS_seq, WS_ite, oRs_some, eVar_ap, eC_ap, eBin_ap, isB_bl, asB_ap, bAnd_ap, bOr_ap, bNot_ap, bTru_ap, eAnd_wp, eOr_wp, eNot_wp, andR_bl, orR_bl, notR_bl, decide_eq_true_eq, gAny_lst, gAll_lst, gSum_lst, chkOf_p, lItems_lst, eNeg_ap, eIf_ap, aNil_ap, aCons_ap, eTup_ap, eLst_ap, eLstO_ap, eB_ap, eCall_ap, eMth_ap, eIsi_ap, eSl_ap, oNone_ap, oSome_ap, eLc_ap, sSeq_ap, sNil_ap, sBrk_ap, sCnt_ap, sExpr_ap, rtO_some, sRetR_ap, sRetN_ap, sIf_ap, sSet_ap, nxG_ok, sAsg_ap, sAug_ap, gNm_ap, sFor_ap, iRgA_ap, iRgB_ap, iTpl_ap, iLst_ap, restD_p', restAll_nil, restAll_cons, gAdd_int, gAdd_str, gAdd_tup, gAdd_lst, gAddI_int, gSub_int, gMul_int, gMod_int, gFdv_int, gPow_int, gLt_int, gLe_int, gGt_int, gGe_int, gEq_int, gEq_str, gEq_bl, atI_nat', atI_0, atI_1, atI_2, atI_3, atI_4, atI_5, gIx_tup, gIx_lst, gIx_scr, gIx_ob, obL_lst, obL_fz, gLen_tup, gLen_lst, gLen_scr, gLen_ob, gToInt_int, gToInt_bl, gToStr_int, truD_bl, gMin2_int, gMax2_int, isLst_ob, isLst_lst, obO_lst, oLst_ob, appO_some, gApp_ap, gSetL_ap, okE_some, setL_ob, ixN_0, ixN_1, sizeLine_val, rngL_length, List.set_cons_zero, List.set_cons_succ, List.getElem?_cons_zero, List.getElem?_cons_succ, Option.join_some, Option.map_some, Option.bind_some, List.length_cons, List.length_nil, Option.isSome_some, if_true, if_false, Bool.false_eq_true, Bool.false_xor, Bool.true_xor, and_self, Nat.reduceAdd, Nat.reduceLeDiff, reduceIte, List.append_nil, Bool.not_true, Bool.not_false, bYes_ap, gIsN_ap, isNoneD_int, isNoneD_none, Bool.not_not]
      exact ⟨b1, v, hb1, by omega, by trivial, by trivial⟩
    rintro ρ S1 ⟨b1, kind, hb1, hk, rfl, rfl⟩
    refine WS_cut (fun ρ S1 => S1 = S.set n b1 ∧ ρ = [some (.ob n), some (.ob m), some (.str (dirS ac)), some (.int ((d + 1 : Nat) : Int)), some (.int (kind : Nat)), none, none]) ?_ ?_
    · by_cases hk2 : (kind : Int) < 2
      · simp -implicitDefEqProofs only [WE_ok, WE_bind, WE_ite, WE_no, WS_nx, WS_rt, WS_bk, WS_ct, WS_lift, WS_seq, WS_ite, oRs_some, eVar_ap, eC_ap, eBin_ap, isB_bl, asB_ap, bAnd_ap, bOr_ap, bNot_ap, bTru_ap, eAnd_wp, eOr_wp, eNot_wp, andR_bl, orR_bl, notR_bl, decide_eq_true_eq, gAny_lst, gAll_lst, gSum_lst, chkOf_p, lItems_lst, eNeg_ap, eIf_ap, aNil_ap, aCons_ap, eTup_ap, eLst_ap, eLstO_ap, eB_ap, eCall_ap, eMth_ap, eIsi_ap, eSl_ap, oNone_ap, oSome_ap, eLc_ap, sSeq_ap, sNil_ap, sBrk_ap, sCnt_ap, sExpr_ap, rtO_some, sRetR_ap, sRetN_ap, sIf_ap, sSet_ap, nxG_ok, sAsg_ap, sAug_ap, gNm_ap, sFor_ap, iRgA_ap, iRgB_ap, iTpl_ap, iLst_ap, restD_p', restAll_nil, restAll_cons, gAdd_int, gAdd_str, gAdd_tup, gAdd_lst, gAddI_int, gSub_int, gMul_int, gMod_int, gFdv_int, gPow_int, gLt_int, gLe_int, gGt_int, gGe_int, gEq_int, gEq_str, gEq_bl, atI_nat', atI_0, atI_1, atI_2, atI_3, atI_4, atI_5, gIx_tup, gIx_lst, gIx_scr, gIx_ob, obL_lst, obL_fz, gLen_tup, gLen_lst, gLen_scr, gLen_ob, gToInt_int, gToInt_bl, gToStr_int, truD_bl, gMin2_int, gMax2_int, isLst_ob, isLst_lst, obO_lst, oLst_ob, appO_some, gApp_ap, gSetL_ap, okE_some, setL_ob, ixN_0, ixN_1, sizeLine_val, rngL_length, List.set_cons_zero, List.set_cons_succ, List.getElem?_cons_zero, List.getElem?_cons_succ, Option.join_some, Option.map_some, Option.bind_some, List.length_cons, List.length_nil, Option.isSome_some, if_true, if_false, Bool.false_eq_true, Bool.false_xor, Bool.true_xor, and_self, Nat.reduceAdd, Nat.reduceLeDiff, reduceIte, List.append_nil, Bool.not_true, Bool.not_false, bYes_ap, gIsN_ap, isNoneD_int, isNoneD_none, Bool.not_not, ed, hk2, decide_true]
        refine place_wp (set_get hl) (hm b1) hnm hb1 (clS_set hc hb1.cl) hg h1 h2 fun b2 p lo hi c hb2 ho => ?_
        simp -implicitDefEqProofs only [WE_ok, WE_bind, WE_ite, WE_no, WS_nx, WS_rt, WS_bk, WS_ct, WS_lift, WS_seq, WS_ite, oRs_some, eVar_ap, eC_ap, eBin_ap, isB_bl, asB_ap, bAnd_ap, bOr_ap, bNot_ap, bTru_ap, eAnd_wp, eOr_wp, eNot_wp, andR_bl, orR_bl, notR_bl, decide_eq_true_eq, gAny_lst, gAll_lst, gSum_lst, chkOf_p, lItems_lst, eNeg_ap, eIf_ap, aNil_ap, aCons_ap, eTup_ap, eLst_ap, eLstO_ap, eB_ap, eCall_ap, eMth_ap, eIsi_ap, eSl_ap, oNone_ap, oSome_ap, eLc_ap, sSeq_ap, sNil_ap, sBrk_ap, sCnt_ap, sExpr_ap, rtO_some, sRetR_ap, sRetN_ap, sIf_ap, sSet_ap, nxG_ok, sAsg_ap, sAug_ap, gNm_ap, sFor_ap, iRgA_ap, iRgB_ap, iTpl_ap, iLst_ap, restD_p', restAll_nil, restAll_cons, gAdd_int, gAdd_str, gAdd_tup, gAdd_lst, gAddI_int, gSub_int, gMul_int, gMod_int, gFdv_int, gPow_int, gLt_int, gLe_int, gGt_int, gGe_int, gEq_int, gEq_str, gEq_bl, atI_nat', atI_0, atI_1, atI_2, atI_3, atI_4, atI_5, gIx_tup, gIx_lst, gIx_scr, gIx_ob, obL_lst, obL_fz, gLen_tup, gLen_lst, gLen_scr, gLen_ob, gToInt_int, gToInt_bl, gToStr_int, truD_bl, gMin2_int, gMax2_int, isLst_ob, isLst_lst, obO_lst, oLst_ob, appO_some, gApp_ap, gSetL_ap, okE_some, setL_ob, ixN_0, ixN_1, sizeLine_val, rngL_length, List.set_cons_zero, List.set_cons_succ, List.getElem?_cons_zero, List.getElem?_cons_succ, Option.join_some, Option.map_some, Option.bind_some, List.length_cons, List.length_nil, Option.isSome_some, if_true, if_false, Bool.false_eq_true, Bool.false_xor, Bool.true_xor, and_self, Nat.reduceAdd, Nat.reduceLeDiff, reduceIte, List.append_nil, Bool.not_true, Bool.not_false, bYes_ap, gIsN_ap, isNoneD_int, isNoneD_none, Bool.not_not, List.set_set]
        exact ⟨b2, .pl p lo hi c, hb2, by simpa [Ex.ok] using ho, by trivial, by trivial⟩
      · simp -implicitDefEqProofs only [WE_ok, WE_bind, WE_ite, WE_no, WS_nx, WS_rt, WS_bk, WS_ct, WS_lift, WS_seq, WS_ite, oRs_some, eVar_ap, eC_ap, eBin_ap, isB_bl, asB_ap, bAnd_ap, bOr_ap, bNot_ap, bTru_ap, eAnd_wp, eOr_wp, eNot_wp, andR_bl, orR_bl, notR_bl, decide_eq_true_eq, gAny_lst, gAll_lst, gSum_lst, chkOf_p, lItems_lst, eNeg_ap, eIf_ap, aNil_ap, aCons_ap, eTup_ap, eLst_ap, eLstO_ap, eB_ap, eCall_ap, eMth_ap, eIsi_ap, eSl_ap, oNone_ap, oSome_ap, eLc_ap, sSeq_ap, sNil_ap, sBrk_ap, sCnt_ap, sExpr_ap, rtO_some, sRetR_ap, sRetN_ap, sIf_ap, sSet_ap, nxG_ok, sAsg_ap, sAug_ap, gNm_ap, sFor_ap, iRgA_ap, iRgB_ap, iTpl_ap, iLst_ap, restD_p', restAll_nil, restAll_cons, gAdd_int, gAdd_str, gAdd_tup, gAdd_lst, gAddI_int, gSub_int, gMul_int, gMod_int, gFdv_int, gPow_int, gLt_int, gLe_int, gGt_int, gGe_int, gEq_int, gEq_str, gEq_bl, atI_nat', atI_0, atI_1, atI_2, atI_3, atI_4, atI_5, gIx_tup, gIx_lst, gIx_scr, gIx_ob, obL_lst, obL_fz, gLen_tup, gLen_lst, gLen_scr, gLen_ob, gToInt_int, gToInt_bl, gToStr_int, truD_bl, gMin2_int, gMax2_int, isLst_ob, isLst_lst, obO_lst, oLst_ob, appO_some, gApp_ap, gSetL_ap, okE_some, setL_ob, ixN_0, ixN_1, sizeLine_val, rngL_length, List.set_cons_zero, List.set_cons_succ, List.getElem?_cons_zero, List.getElem?_cons_succ, Option.join_some, Option.map_some, Option.bind_some, List.length_cons, List.length_nil, Option.isSome_some, if_true, if_false, Bool.false_eq_true, Bool.false_xor, Bool.true_xor, and_self, Nat.reduceAdd, Nat.reduceLeDiff, reduceIte, List.append_nil, Bool.not_true, Bool.not_false, bYes_ap, gIsN_ap, isNoneD_int, isNoneD_none, Bool.not_not, ed, hk2, decide_false]
        all_goals exact ⟨by trivial, by trivial⟩
    rintro ρ S1 ⟨rfl, rfl⟩
    refine WS_cut (fun ρ S1 => S1 = S.set n b1 ∧ ρ = [some (.ob n), some (.ob m), some (.str (dirS ac)), some (.int ((d + 1 : Nat) : Int)), some (.int (kind : Nat)), none, none]) ?_ ?_
    · by_cases hk2 : (kind : Int) < 6
      · have b2 : big62 2 = true := big62_of (by decide) (by decide)
        simp -implicitDefEqProofs only [WE_ok, WE_bind, WE_ite, WE_no, WS_nx, WS_rt, WS_bk, WS_ct, WS_lift, WS_seq, WS_ite, oRs_some, eVar_ap, eC_ap, eBin_ap, isB_bl, asB_ap, bAnd_ap, bOr_ap, bNot_ap, bTru_ap, eAnd_wp, eOr_wp, eNot_wp, andR_bl, orR_bl, notR_bl, decide_eq_true_eq, gAny_lst, gAll_lst, gSum_lst, chkOf_p, lItems_lst, eNeg_ap, eIf_ap, aNil_ap, aCons_ap, eTup_ap, eLst_ap, eLstO_ap, eB_ap, eCall_ap, eMth_ap, eIsi_ap, eSl_ap, oNone_ap, oSome_ap, eLc_ap, sSeq_ap, sNil_ap, sBrk_ap, sCnt_ap, sExpr_ap, rtO_some, sRetR_ap, sRetN_ap, sIf_ap, sSet_ap, nxG_ok, sAsg_ap, sAug_ap, gNm_ap, sFor_ap, iRgA_ap, iRgB_ap, iTpl_ap, iLst_ap, restD_p', restAll_nil, restAll_cons, gAdd_int, gAdd_str, gAdd_tup, gAdd_lst, gAddI_int, gSub_int, gMul_int, gMod_int, gFdv_int, gPow_int, gLt_int, gLe_int, gGt_int, gGe_int, gEq_int, gEq_str, gEq_bl, atI_nat', atI_0, atI_1, atI_2, atI_3, atI_4, atI_5, gIx_tup, gIx_lst, gIx_scr, gIx_ob, obL_lst, obL_fz, gLen_tup, gLen_lst, gLen_scr, gLen_ob, gToInt_int, gToInt_bl, gToStr_int, truD_bl, gMin2_int, gMax2_int, isLst_ob, isLst_lst, obO_lst, oLst_ob, appO_some, gApp_ap, gSetL_ap, okE_some, setL_ob, ixN_0, ixN_1, sizeLine_val, rngL_length, List.set_cons_zero, List.set_cons_succ, List.getElem?_cons_zero, List.getElem?_cons_succ, Option.join_some, Option.map_some, Option.bind_some, List.length_cons, List.length_nil, Option.isSome_some, if_true, if_false, Bool.false_eq_true, Bool.false_xor, Bool.true_xor, and_self, Nat.reduceAdd, Nat.reduceLeDiff, reduceIte, List.append_nil, Bool.not_true, Bool.not_false, bYes_ap, gIsN_ap, isNoneD_int, isNoneD_none, Bool.not_not, hk2, decide_true, b2]
        refine WE_lc (fun i acc S' => ∃ b' es, IsBox b' ∧ es.length = i ∧ (∀ e ∈ es, Ex.ok Ps.length d e) ∧ acc = es.map Ex.py ∧ S' = S.set n b') _ 0 _ _ ⟨b1, [], hb1, rfl, (fun _ z => by cases z), rfl, rfl⟩ ?_ ?_
        · rintro i dd acc S' hd' ⟨b3, es, hb3, hes, hok, rfl, rfl⟩
          obtain ⟨hi, rfl⟩ := rngL_get hd'
          rw [show wipeE [some (.ob n), some (.ob m), some (.str (dirS ac)), some (.int ((d + 1 : Nat) : Int)), some (.int (kind : Nat)), none, none] [6] = [some (.ob n), some (.ob m), some (.str (dirS ac)), some (.int ((d + 1 : Nat) : Int)), some (.int (kind : Nat)), none, none] from rfl]
          simp -implicitDefEqProofs only [WE_ok, WE_bind, WE_ite, WE_no, WS_nx, WS_rt, WS_bk, WS_ct, WS_lift, WS_seq, WS_ite, oRs_some, eVar_ap, eC_ap, eBin_ap, isB_bl, asB_ap, bAnd_ap, bOr_ap, bNot_ap, bTru_ap, eAnd_wp, eOr_wp, eNot_wp, andR_bl, orR_bl, notR_bl, decide_eq_true_eq, gAny_lst, gAll_lst, gSum_lst, chkOf_p, lItems_lst, eNeg_ap, eIf_ap, aNil_ap, aCons_ap, eTup_ap, eLst_ap, eLstO_ap, eB_ap, eCall_ap, eMth_ap, eIsi_ap, eSl_ap, oNone_ap, oSome_ap, eLc_ap, sSeq_ap, sNil_ap, sBrk_ap, sCnt_ap, sExpr_ap, rtO_some, sRetR_ap, sRetN_ap, sIf_ap, sSet_ap, nxG_ok, sAsg_ap, sAug_ap, gNm_ap, sFor_ap, iRgA_ap, iRgB_ap, iTpl_ap, iLst_ap, restD_p', restAll_nil, restAll_cons, gAdd_int, gAdd_str, gAdd_tup, gAdd_lst, gAddI_int, gSub_int, gMul_int, gMod_int, gFdv_int, gPow_int, gLt_int, gLe_int, gGt_int, gGe_int, gEq_int, gEq_str, gEq_bl, atI_nat', atI_0, atI_1, atI_2, atI_3, atI_4, atI_5, gIx_tup, gIx_lst, gIx_scr, gIx_ob, obL_lst, obL_fz, gLen_tup, gLen_lst, gLen_scr, gLen_ob, gToInt_int, gToInt_bl, gToStr_int, truD_bl, gMin2_int, gMax2_int, isLst_ob, isLst_lst, obO_lst, oLst_ob, appO_some, gApp_ap, gSetL_ap, okE_some, setL_ob, ixN_0, ixN_1, sizeLine_val, rngL_length, List.set_cons_zero, List.set_cons_succ, List.getElem?_cons_zero, List.getElem?_cons_succ, Option.join_some, Option.map_some, Option.bind_some, List.length_cons, List.length_nil, Option.isSome_some, if_true, if_false, Bool.false_eq_true, Bool.false_xor, Bool.true_xor, and_self, Nat.reduceAdd, Nat.reduceLeDiff, reduceIte, List.append_nil, Bool.not_true, Bool.not_false, bYes_ap, gIsN_ap, isNoneD_int, isNoneD_none, Bool.not_not, ed2]
          refine ih f (set_get hl) (hm b3) hb3 (clS_set hc hb3.cl) (by omega) (by omega) fun b4 e hb4 he => ?_
          have hi2 : i < 2 := hi
          have hL : (es.map Ex.py).length < sizeLine := by rw [List.length_map, hes, sizeLine_eq]; omega
          simp -implicitDefEqProofs only [WE_ok, WE_bind, WE_ite, WE_no, WS_nx, WS_rt, WS_bk, WS_ct, WS_lift, WS_seq, WS_ite, oRs_some, eVar_ap, eC_ap, eBin_ap, isB_bl, asB_ap, bAnd_ap, bOr_ap, bNot_ap, bTru_ap, eAnd_wp, eOr_wp, eNot_wp, andR_bl, orR_bl, notR_bl, decide_eq_true_eq, gAny_lst, gAll_lst, gSum_lst, chkOf_p, lItems_lst, eNeg_ap, eIf_ap, aNil_ap, aCons_ap, eTup_ap, eLst_ap, eLstO_ap, eB_ap, eCall_ap, eMth_ap, eIsi_ap, eSl_ap, oNone_ap, oSome_ap, eLc_ap, sSeq_ap, sNil_ap, sBrk_ap, sCnt_ap, sExpr_ap, rtO_some, sRetR_ap, sRetN_ap, sIf_ap, sSet_ap, nxG_ok, sAsg_ap, sAug_ap, gNm_ap, sFor_ap, iRgA_ap, iRgB_ap, iTpl_ap, iLst_ap, restD_p', restAll_nil, restAll_cons, gAdd_int, gAdd_str, gAdd_tup, gAdd_lst, gAddI_int, gSub_int, gMul_int, gMod_int, gFdv_int, gPow_int, gLt_int, gLe_int, gGt_int, gGe_int, gEq_int, gEq_str, gEq_bl, atI_nat', atI_0, atI_1, atI_2, atI_3, atI_4, atI_5, gIx_tup, gIx_lst, gIx_scr, gIx_ob, obL_lst, obL_fz, gLen_tup, gLen_lst, gLen_scr, gLen_ob, gToInt_int, gToInt_bl, gToStr_int, truD_bl, gMin2_int, gMax2_int, isLst_ob, isLst_lst, obO_lst, oLst_ob, appO_some, gApp_ap, gSetL_ap, okE_some, setL_ob, ixN_0, ixN_1, sizeLine_val, rngL_length, List.set_cons_zero, List.set_cons_succ, List.getElem?_cons_zero, List.getElem?_cons_succ, Option.join_some, Option.map_some, Option.bind_some, List.length_cons, List.length_nil, Option.isSome_some, if_true, if_false, Bool.false_eq_true, Bool.false_xor, Bool.true_xor, and_self, Nat.reduceAdd, Nat.reduceLeDiff, reduceIte, List.append_nil, Bool.not_true, Bool.not_false, bYes_ap, gIsN_ap, isNoneD_int, isNoneD_none, Bool.not_not, List.set_set]
          refine ⟨_, _, rfl, by simpa using hL, trivial, b4, es ++ [e], hb4, by simp [hes], fun x hx => ?_, by simp, rfl⟩
          rcases List.mem_append.mp hx with z | z
          · exact hok x z
          · rw [List.mem_singleton.mp z]; exact he
        · rintro acc S' ⟨b3, es, hb3, hes, hok, rfl, rfl⟩
          have hes : es.length = 2 := hes
          obtain ⟨x, y, rfl⟩ : ∃ x y, es = [x, y] := by
            match es, hes with
            | [x, y], _ => exact ⟨x, y, rfl⟩
          have hx := hok x (by simp)
          have hy := hok y (by simp)
          have vl : vList (S.set n b3) (.p (.list [x.py, y.py])) = some [x.py, y.py] := rfl
          have gt : gToTup [.p (.list [x.py, y.py])] (S.set n b3) = .ok (.p (.tuple [x.py, y.py])) (S.set n b3) := by
            unfold gToTup
            simp only [vl]
          have h22 : kind % 2 = 0 ∨ kind % 2 = 1 := by omega
          have ekm : (kind : Int) % 2 = ((kind % 2 : Nat) : Int) := by simp
          simp -implicitDefEqProofs only [WE_ok, WE_bind, WE_ite, WE_no, WS_nx, WS_rt, WS_bk, WS_ct, WS_lift, WS_seq, WS_ite, oRs_some, eVar_ap, eC_ap, eBin_ap, isB_bl, asB_ap, bAnd_ap, bOr_ap, bNot_ap, bTru_ap, eAnd_wp, eOr_wp, eNot_wp, andR_bl, orR_bl, notR_bl, decide_eq_true_eq, gAny_lst, gAll_lst, gSum_lst, chkOf_p, lItems_lst, eNeg_ap, eIf_ap, aNil_ap, aCons_ap, eTup_ap, eLst_ap, eLstO_ap, eB_ap, eCall_ap, eMth_ap, eIsi_ap, eSl_ap, oNone_ap, oSome_ap, eLc_ap, sSeq_ap, sNil_ap, sBrk_ap, sCnt_ap, sExpr_ap, rtO_some, sRetR_ap, sRetN_ap, sIf_ap, sSet_ap, nxG_ok, sAsg_ap, sAug_ap, gNm_ap, sFor_ap, iRgA_ap, iRgB_ap, iTpl_ap, iLst_ap, restD_p', restAll_nil, restAll_cons, gAdd_int, gAdd_str, gAdd_tup, gAdd_lst, gAddI_int, gSub_int, gMul_int, gMod_int, gFdv_int, gPow_int, gLt_int, gLe_int, gGt_int, gGe_int, gEq_int, gEq_str, gEq_bl, atI_nat', atI_0, atI_1, atI_2, atI_3, atI_4, atI_5, gIx_tup, gIx_lst, gIx_scr, gIx_ob, obL_lst, obL_fz, gLen_tup, gLen_lst, gLen_scr, gLen_ob, gToInt_int, gToInt_bl, gToStr_int, truD_bl, gMin2_int, gMax2_int, isLst_ob, isLst_lst, obO_lst, oLst_ob, appO_some, gApp_ap, gSetL_ap, okE_some, setL_ob, ixN_0, ixN_1, sizeLine_val, rngL_length, List.set_cons_zero, List.set_cons_succ, List.getElem?_cons_zero, List.getElem?_cons_succ, Option.join_some, Option.map_some, Option.bind_some, List.length_cons, List.length_nil, Option.isSome_some, if_true, if_false, Bool.false_eq_true, Bool.false_xor, Bool.true_xor, and_self, Nat.reduceAdd, Nat.reduceLeDiff, reduceIte, List.append_nil, Bool.not_true, Bool.not_false, bYes_ap, gIsN_ap, isNoneD_int, isNoneD_none, Bool.not_not, List.map_cons, List.map_nil, gt, ekm]
          rw [if_pos (by decide)]
          rcases h22 with e2 | e2
          · simp -implicitDefEqProofs only [WE_ok, WE_bind, WE_ite, WE_no, WS_nx, WS_rt, WS_bk, WS_ct, WS_lift, WS_seq, WS_ite, oRs_some, eVar_ap, eC_ap, eBin_ap, isB_bl, asB_ap, bAnd_ap, bOr_ap, bNot_ap, bTru_ap, eAnd_wp, eOr_wp, eNot_wp, andR_bl, orR_bl, notR_bl, decide_eq_true_eq, gAny_lst, gAll_lst, gSum_lst, chkOf_p, lItems_lst, eNeg_ap, eIf_ap, aNil_ap, aCons_ap, eTup_ap, eLst_ap, eLstO_ap, eB_ap, eCall_ap, eMth_ap, eIsi_ap, eSl_ap, oNone_ap, oSome_ap, eLc_ap, sSeq_ap, sNil_ap, sBrk_ap, sCnt_ap, sExpr_ap, rtO_some, sRetR_ap, sRetN_ap, sIf_ap, sSet_ap, nxG_ok, sAsg_ap, sAug_ap, gNm_ap, sFor_ap, iRgA_ap, iRgB_ap, iTpl_ap, iLst_ap, restD_p', restAll_nil, restAll_cons, gAdd_int, gAdd_str, gAdd_tup, gAdd_lst, gAddI_int, gSub_int, gMul_int, gMod_int, gFdv_int, gPow_int, gLt_int, gLe_int, gGt_int, gGe_int, gEq_int, gEq_str, gEq_bl, atI_nat', atI_0, atI_1, atI_2, atI_3, atI_4, atI_5, gIx_tup, gIx_lst, gIx_scr, gIx_ob, obL_lst, obL_fz, gLen_tup, gLen_lst, gLen_scr, gLen_ob, gToInt_int, gToInt_bl, gToStr_int, truD_bl, gMin2_int, gMax2_int, isLst_ob, isLst_lst, obO_lst, oLst_ob, appO_some, gApp_ap, gSetL_ap, okE_some, setL_ob, ixN_0, ixN_1, sizeLine_val, rngL_length, List.set_cons_zero, List.set_cons_succ, List.getElem?_cons_zero, List.getElem?_cons_succ, Option.join_some, Option.map_some, Option.bind_some, List.length_cons, List.length_nil, Option.isSome_some, if_true, if_false, Bool.false_eq_true, Bool.false_xor, Bool.true_xor, and_self, Nat.reduceAdd, Nat.reduceLeDiff, reduceIte, List.append_nil, Bool.not_true, Bool.not_false, bYes_ap, gIsN_ap, isNoneD_int, isNoneD_none, Bool.not_not, e2]
            exact ⟨b3, .sq x y, hb3, ⟨hx, hy⟩, by trivial, by trivial⟩
          · simp -implicitDefEqProofs only [WE_ok, WE_bind, WE_ite, WE_no, WS_nx, WS_rt, WS_bk, WS_ct, WS_lift, WS_seq, WS_ite, oRs_some, eVar_ap, eC_ap, eBin_ap, isB_bl, asB_ap, bAnd_ap, bOr_ap, bNot_ap, bTru_ap, eAnd_wp, eOr_wp, eNot_wp, andR_bl, orR_bl, notR_bl, decide_eq_true_eq, gAny_lst, gAll_lst, gSum_lst, chkOf_p, lItems_lst, eNeg_ap, eIf_ap, aNil_ap, aCons_ap, eTup_ap, eLst_ap, eLstO_ap, eB_ap, eCall_ap, eMth_ap, eIsi_ap, eSl_ap, oNone_ap, oSome_ap, eLc_ap, sSeq_ap, sNil_ap, sBrk_ap, sCnt_ap, sExpr_ap, rtO_some, sRetR_ap, sRetN_ap, sIf_ap, sSet_ap, nxG_ok, sAsg_ap, sAug_ap, gNm_ap, sFor_ap, iRgA_ap, iRgB_ap, iTpl_ap, iLst_ap, restD_p', restAll_nil, restAll_cons, gAdd_int, gAdd_str, gAdd_tup, gAdd_lst, gAddI_int, gSub_int, gMul_int, gMod_int, gFdv_int, gPow_int, gLt_int, gLe_int, gGt_int, gGe_int, gEq_int, gEq_str, gEq_bl, atI_nat', atI_0, atI_1, atI_2, atI_3, atI_4, atI_5, gIx_tup, gIx_lst, gIx_scr, gIx_ob, obL_lst, obL_fz, gLen_tup, gLen_lst, gLen_scr, gLen_ob, gToInt_int, gToInt_bl, gToStr_int, truD_bl, gMin2_int, gMax2_int, isLst_ob, isLst_lst, obO_lst, oLst_ob, appO_some, gApp_ap, gSetL_ap, okE_some, setL_ob, ixN_0, ixN_1, sizeLine_val, rngL_length, List.set_cons_zero, List.set_cons_succ, List.getElem?_cons_zero, List.getElem?_cons_succ, Option.join_some, Option.map_some, Option.bind_some, List.length_cons, List.length_nil, Option.isSome_some, if_true, if_false, Bool.false_eq_true, Bool.false_xor, Bool.true_xor, and_self, Nat.reduceAdd, Nat.reduceLeDiff, reduceIte, List.append_nil, Bool.not_true, Bool.not_false, bYes_ap, gIsN_ap, isNoneD_int, isNoneD_none, Bool.not_not, e2]
            exact ⟨b3, .ch x y, hb3, ⟨hx, hy⟩, by trivial, by trivial⟩
      · simp -implicitDefEqProofs only [WE_ok, WE_bind, WE_ite, WE_no, WS_nx, WS_rt, WS_bk, WS_ct, WS_lift, WS_seq, WS_ite, oRs_some, eVar_ap, eC_ap, eBin_ap, isB_bl, asB_ap, bAnd_ap, bOr_ap, bNot_ap, bTru_ap, eAnd_wp, eOr_wp, eNot_wp, andR_bl, orR_bl, notR_bl, decide_eq_true_eq, gAny_lst, gAll_lst, gSum_lst, chkOf_p, lItems_lst, eNeg_ap, eIf_ap, aNil_ap, aCons_ap, eTup_ap, eLst_ap, eLstO_ap, eB_ap, eCall_ap, eMth_ap, eIsi_ap, eSl_ap, oNone_ap, oSome_ap, eLc_ap, sSeq_ap, sNil_ap, sBrk_ap, sCnt_ap, sExpr_ap, rtO_some, sRetR_ap, sRetN_ap, sIf_ap, sSet_ap, nxG_ok, sAsg_ap, sAug_ap, gNm_ap, sFor_ap, iRgA_ap, iRgB_ap, iTpl_ap, iLst_ap, restD_p', restAll_nil, restAll_cons, gAdd_int, gAdd_str, gAdd_tup, gAdd_lst, gAddI_int, gSub_int, gMul_int, gMod_int, gFdv_int, gPow_int, gLt_int, gLe_int, gGt_int, gGe_int, gEq_int, gEq_str, gEq_bl, atI_nat', atI_0, atI_1, atI_2, atI_3, atI_4, atI_5, gIx_tup, gIx_lst, gIx_scr, gIx_ob, obL_lst, obL_fz, gLen_tup, gLen_lst, gLen_scr, gLen_ob, gToInt_int, gToInt_bl, gToStr_int, truD_bl, gMin2_int, gMax2_int, isLst_ob, isLst_lst, obO_lst, oLst_ob, appO_some, gApp_ap, gSetL_ap, okE_some, setL_ob, ixN_0, ixN_1, sizeLine_val, rngL_length, List.set_cons_zero, List.set_cons_succ, List.getElem?_cons_zero, List.getElem?_cons_succ, Option.join_some, Option.map_some, Option.bind_some, List.length_cons, List.length_nil, Option.isSome_some, if_true, if_false, Bool.false_eq_true, Bool.false_xor, Bool.true_xor, and_self, Nat.reduceAdd, Nat.reduceLeDiff, reduceIte, List.append_nil, Bool.not_true, Bool.not_false, bYes_ap, gIsN_ap, isNoneD_int, isNoneD_none, Bool.not_not, hk2, decide_false]
        all_goals exact ⟨by trivial, by trivial⟩
    rintro ρ S1 ⟨rfl, rfl⟩
    simp -implicitDefEqProofs only [WE_ok, WE_bind, WE_ite, WE_no, WS_nx, WS_rt, WS_bk, WS_ct, WS_lift, WS_seq, WS_ite, oRs_some, eVar_ap, eC_ap, eBin_ap, isB_bl, asB_ap, bAnd_ap, bOr_ap, bNot_ap, bTru_ap, eAnd_wp, eOr_wp, eNot_wp, andR_bl, orR_bl, notR_bl, decide_eq_true_eq, gAny_lst, gAll_lst, gSum_lst, chkOf_p, lItems_lst, eNeg_ap, eIf_ap, aNil_ap, aCons_ap, eTup_ap, eLst_ap, eLstO_ap, eB_ap, eCall_ap, eMth_ap, eIsi_ap, eSl_ap, oNone_ap, oSome_ap, eLc_ap, sSeq_ap, sNil_ap, sBrk_ap, sCnt_ap, sExpr_ap, rtO_some, sRetR_ap, sRetN_ap, sIf_ap, sSet_ap, nxG_ok, sAsg_ap, sAug_ap, gNm_ap, sFor_ap, iRgA_ap, iRgB_ap, iTpl_ap, iLst_ap, restD_p', restAll_nil, restAll_cons, gAdd_int, gAdd_str, gAdd_tup, gAdd_lst, gAddI_int, gSub_int, gMul_int, gMod_int, gFdv_int, gPow_int, gLt_int, gLe_int, gGt_int, gGe_int, gEq_int, gEq_str, gEq_bl, atI_nat', atI_0, atI_1, atI_2, atI_3, atI_4, atI_5, gIx_tup, gIx_lst, gIx_scr, gIx_ob, obL_lst, obL_fz, gLen_tup, gLen_lst, gLen_scr, gLen_ob, gToInt_int, gToInt_bl, gToStr_int, truD_bl, gMin2_int, gMax2_int, isLst_ob, isLst_lst, obO_lst, oLst_ob, appO_some, gApp_ap, gSetL_ap, okE_some, setL_ob, ixN_0, ixN_1, sizeLine_val, rngL_length, List.set_cons_zero, List.set_cons_succ, List.getElem?_cons_zero, List.getElem?_cons_succ, Option.join_some, Option.map_some, Option.bind_some, List.length_cons, List.length_nil, Option.isSome_some, if_true, if_false, Bool.false_eq_true, Bool.false_xor, Bool.true_xor, and_self, Nat.reduceAdd, Nat.reduceLeDiff, reduceIte, List.append_nil, Bool.not_true, Bool.not_false, bYes_ap, gIsN_ap, isNoneD_int, isNoneD_none, Bool.not_not]
    refine draw_wp (set_get hl) hb1 (by decide) (clS_set hc hb1.cl) fun v b2 h0 h1' hb2 => ?_
    have hv : v = 0 ∨ v = 1 ∨ v = 2 := by omega
    rcases hv with rfl | rfl | rfl
    · simp -implicitDefEqProofs only [WE_ok, WE_bind, WE_ite, WE_no, WS_nx, WS_rt, WS_bk, WS_ct, WS_lift, WS_seq, WS_ite, oRs_some, eVar_ap, eC_ap, eBin_ap, isB_bl, asB_ap, bAnd_ap, bOr_ap, bNot_ap, bTru_ap, eAnd_wp, eOr_wp, eNot_wp, andR_bl, orR_bl, notR_bl, decide_eq_true_eq, gAny_lst, gAll_lst, gSum_lst, chkOf_p, lItems_lst, eNeg_ap, eIf_ap, aNil_ap, aCons_ap, eTup_ap, eLst_ap, eLstO_ap, eB_ap, eCall_ap, eMth_ap, eIsi_ap, eSl_ap, oNone_ap, oSome_ap, eLc_ap, sSeq_ap, sNil_ap, sBrk_ap, sCnt_ap, sExpr_ap, rtO_some, sRetR_ap, sRetN_ap, sIf_ap, sSet_ap, nxG_ok, sAsg_ap, sAug_ap, gNm_ap, sFor_ap, iRgA_ap, iRgB_ap, iTpl_ap, iLst_ap, restD_p', restAll_nil, restAll_cons, gAdd_int, gAdd_str, gAdd_tup, gAdd_lst, gAddI_int, gSub_int, gMul_int, gMod_int, gFdv_int, gPow_int, gLt_int, gLe_int, gGt_int, gGe_int, gEq_int, gEq_str, gEq_bl, atI_nat', atI_0, atI_1, atI_2, atI_3, atI_4, atI_5, gIx_tup, gIx_lst, gIx_scr, gIx_ob, obL_lst, obL_fz, gLen_tup, gLen_lst, gLen_scr, gLen_ob, gToInt_int, gToInt_bl, gToStr_int, truD_bl, gMin2_int, gMax2_int, isLst_ob, isLst_lst, obO_lst, oLst_ob, appO_some, gApp_ap, gSetL_ap, okE_some, setL_ob, ixN_0, ixN_1, sizeLine_val, rngL_length, List.set_cons_zero, List.set_cons_succ, List.getElem?_cons_zero, List.getElem?_cons_succ, Option.join_some, Option.map_some, Option.bind_some, List.length_cons, List.length_nil, Option.isSome_some, if_true, if_false, Bool.false_eq_true, Bool.false_xor, Bool.true_xor, and_self, Nat.reduceAdd, Nat.reduceLeDiff, reduceIte, List.append_nil, Bool.not_true, Bool.not_false, bYes_ap, gIsN_ap, isNoneD_int, isNoneD_none, Bool.not_not, List.set_set, ed2]
      refine ih f (set_get hl) (hm b2) hb2 (clS_set hc hb2.cl) (by omega) (by omega) fun b4 e hb4 he => ?_
      simp -implicitDefEqProofs only [WE_ok, WE_bind, WE_ite, WE_no, WS_nx, WS_rt, WS_bk, WS_ct, WS_lift, WS_seq, WS_ite, oRs_some, eVar_ap, eC_ap, eBin_ap, isB_bl, asB_ap, bAnd_ap, bOr_ap, bNot_ap, bTru_ap, eAnd_wp, eOr_wp, eNot_wp, andR_bl, orR_bl, notR_bl, decide_eq_true_eq, gAny_lst, gAll_lst, gSum_lst, chkOf_p, lItems_lst, eNeg_ap, eIf_ap, aNil_ap, aCons_ap, eTup_ap, eLst_ap, eLstO_ap, eB_ap, eCall_ap, eMth_ap, eIsi_ap, eSl_ap, oNone_ap, oSome_ap, eLc_ap, sSeq_ap, sNil_ap, sBrk_ap, sCnt_ap, sExpr_ap, rtO_some, sRetR_ap, sRetN_ap, sIf_ap, sSet_ap, nxG_ok, sAsg_ap, sAug_ap, gNm_ap, sFor_ap, iRgA_ap, iRgB_ap, iTpl_ap, iLst_ap, restD_p', restAll_nil, restAll_cons, gAdd_int, gAdd_str, gAdd_tup, gAdd_lst, gAddI_int, gSub_int, gMul_int, gMod_int, gFdv_int, gPow_int, gLt_int, gLe_int, gGt_int, gGe_int, gEq_int, gEq_str, gEq_bl, atI_nat', atI_0, atI_1, atI_2, atI_3, atI_4, atI_5, gIx_tup, gIx_lst, gIx_scr, gIx_ob, obL_lst, obL_fz, gLen_tup, gLen_lst, gLen_scr, gLen_ob, gToInt_int, gToInt_bl, gToStr_int, truD_bl, gMin2_int, gMax2_int, isLst_ob, isLst_lst, obO_lst, oLst_ob, appO_some, gApp_ap, gSetL_ap, okE_some, setL_ob, ixN_0, ixN_1, sizeLine_val, rngL_length, List.set_cons_zero, List.set_cons_succ, List.getElem?_cons_zero, List.getElem?_cons_succ, Option.join_some, Option.map_some, Option.bind_some, List.length_cons, List.length_nil, Option.isSome_some, if_true, if_false, Bool.false_eq_true, Bool.false_xor, Bool.true_xor, and_self, Nat.reduceAdd, Nat.reduceLeDiff, reduceIte, List.append_nil, Bool.not_true, Bool.not_false, bYes_ap, gIsN_ap, isNoneD_int, isNoneD_none, Bool.not_not, List.set_set]
      exact ⟨b4, .an e, hb4, he, by trivial, by trivial⟩
    · simp -implicitDefEqProofs only [WE_ok, WE_bind, WE_ite, WE_no, WS_nx, WS_rt, WS_bk, WS_ct, WS_lift, WS_seq, WS_ite, oRs_some, eVar_ap, eC_ap, eBin_ap, isB_bl, asB_ap, bAnd_ap, bOr_ap, bNot_ap, bTru_ap, eAnd_wp, eOr_wp, eNot_wp, andR_bl, orR_bl, notR_bl, decide_eq_true_eq, gAny_lst, gAll_lst, gSum_lst, chkOf_p, lItems_lst, eNeg_ap, eIf_ap, aNil_ap, aCons_ap, eTup_ap, eLst_ap, eLstO_ap, eB_ap, eCall_ap, eMth_ap, eIsi_ap, eSl_ap, oNone_ap, oSome_ap, eLc_ap, sSeq_ap, sNil_ap, sBrk_ap, sCnt_ap, sExpr_ap, rtO_some, sRetR_ap, sRetN_ap, sIf_ap, sSet_ap, nxG_ok, sAsg_ap, sAug_ap, gNm_ap, sFor_ap, iRgA_ap, iRgB_ap, iTpl_ap, iLst_ap, restD_p', restAll_nil, restAll_cons, gAdd_int, gAdd_str, gAdd_tup, gAdd_lst, gAddI_int, gSub_int, gMul_int, gMod_int, gFdv_int, gPow_int, gLt_int, gLe_int, gGt_int, gGe_int, gEq_int, gEq_str, gEq_bl, atI_nat', atI_0, atI_1, atI_2, atI_3, atI_4, atI_5, gIx_tup, gIx_lst, gIx_scr, gIx_ob, obL_lst, obL_fz, gLen_tup, gLen_lst, gLen_scr, gLen_ob, gToInt_int, gToInt_bl, gToStr_int, truD_bl, gMin2_int, gMax2_int, isLst_ob, isLst_lst, obO_lst, oLst_ob, appO_some, gApp_ap, gSetL_ap, okE_some, setL_ob, ixN_0, ixN_1, sizeLine_val, rngL_length, List.set_cons_zero, List.set_cons_succ, List.getElem?_cons_zero, List.getElem?_cons_succ, Option.join_some, Option.map_some, Option.bind_some, List.length_cons, List.length_nil, Option.isSome_some, if_true, if_false, Bool.false_eq_true, Bool.false_xor, Bool.true_xor, and_self, Nat.reduceAdd, Nat.reduceLeDiff, reduceIte, List.append_nil, Bool.not_true, Bool.not_false, bYes_ap, gIsN_ap, isNoneD_int, isNoneD_none, Bool.not_not, List.set_set, ed2]
      refine ih f (set_get hl) (hm b2) hb2 (clS_set hc hb2.cl) (by omega) (by omega) fun b4 e hb4 he => ?_
      simp -implicitDefEqProofs only [WE_ok, WE_bind, WE_ite, WE_no, WS_nx, WS_rt, WS_bk, WS_ct, WS_lift, WS_seq, WS_ite, oRs_some, eVar_ap, eC_ap, eBin_ap, isB_bl, asB_ap, bAnd_ap, bOr_ap, bNot_ap, bTru_ap, eAnd_wp, eOr_wp, eNot_wp, andR_bl, orR_bl, notR_bl, decide_eq_true_eq, gAny_lst, gAll_lst, gSum_lst, chkOf_p, lItems_lst, eNeg_ap, eIf_ap, aNil_ap, aCons_ap, eTup_ap, eLst_ap, eLstO_ap, eB_ap, eCall_ap, eMth_ap, eIsi_ap, eSl_ap, oNone_ap, oSome_ap, eLc_ap, sSeq_ap, sNil_ap, sBrk_ap, sCnt_ap, sExpr_ap, rtO_some, sRetR_ap, sRetN_ap, sIf_ap, sSet_ap, nxG_ok, sAsg_ap, sAug_ap, gNm_ap, sFor_ap, iRgA_ap, iRgB_ap, iTpl_ap, iLst_ap, restD_p', restAll_nil, restAll_cons, gAdd_int, gAdd_str, gAdd_tup, gAdd_lst, gAddI_int, gSub_int, gMul_int, gMod_int, gFdv_int, gPow_int, gLt_int, gLe_int, gGt_int, gGe_int, gEq_int, gEq_str, gEq_bl, atI_nat', atI_0, atI_1, atI_2, atI_3, atI_4, atI_5, gIx_tup, gIx_lst, gIx_scr, gIx_ob, obL_lst, obL_fz, gLen_tup, gLen_lst, gLen_scr, gLen_ob, gToInt_int, gToInt_bl, gToStr_int, truD_bl, gMin2_int, gMax2_int, isLst_ob, isLst_lst, obO_lst, oLst_ob, appO_some, gApp_ap, gSetL_ap, okE_some, setL_ob, ixN_0, ixN_1, sizeLine_val, rngL_length, List.set_cons_zero, List.set_cons_succ, List.getElem?_cons_zero, List.getElem?_cons_succ, Option.join_some, Option.map_some, Option.bind_some, List.length_cons, List.length_nil, Option.isSome_some, if_true, if_false, Bool.false_eq_true, Bool.false_xor, Bool.true_xor, and_self, Nat.reduceAdd, Nat.reduceLeDiff, reduceIte, List.append_nil, Bool.not_true, Bool.not_false, bYes_ap, gIsN_ap, isNoneD_int, isNoneD_none, Bool.not_not, List.set_set]
      exact ⟨b4, .so e, hb4, he, by trivial, by trivial⟩
    · simp -implicitDefEqProofs only [WE_ok, WE_bind, WE_ite, WE_no, WS_nx, WS_rt, WS_bk, WS_ct, WS_lift, WS_seq, WS_ite, oRs_some, eVar_ap, eC_ap, eBin_ap, isB_bl, asB_ap, bAnd_ap, bOr_ap, bNot_ap, bTru_ap, eAnd_wp, eOr_wp, eNot_wp, andR_bl, orR_bl, notR_bl, decide_eq_true_eq, gAny_lst, gAll_lst, gSum_lst, chkOf_p, lItems_lst, eNeg_ap, eIf_ap, aNil_ap, aCons_ap, eTup_ap, eLst_ap, eLstO_ap, eB_ap, eCall_ap, eMth_ap, eIsi_ap, eSl_ap, oNone_ap, oSome_ap, eLc_ap, sSeq_ap, sNil_ap, sBrk_ap, sCnt_ap, sExpr_ap, rtO_some, sRetR_ap, sRetN_ap, sIf_ap, sSet_ap, nxG_ok, sAsg_ap, sAug_ap, gNm_ap, sFor_ap, iRgA_ap, iRgB_ap, iTpl_ap, iLst_ap, restD_p', restAll_nil, restAll_cons, gAdd_int, gAdd_str, gAdd_tup, gAdd_lst, gAddI_int, gSub_int, gMul_int, gMod_int, gFdv_int, gPow_int, gLt_int, gLe_int, gGt_int, gGe_int, gEq_int, gEq_str, gEq_bl, atI_nat', atI_0, atI_1, atI_2, atI_3, atI_4, atI_5, gIx_tup, gIx_lst, gIx_scr, gIx_ob, obL_lst, obL_fz, gLen_tup, gLen_lst, gLen_scr, gLen_ob, gToInt_int, gToInt_bl, gToStr_int, truD_bl, gMin2_int, gMax2_int, isLst_ob, isLst_lst, obO_lst, oLst_ob, appO_some, gApp_ap, gSetL_ap, okE_some, setL_ob, ixN_0, ixN_1, sizeLine_val, rngL_length, List.set_cons_zero, List.set_cons_succ, List.getElem?_cons_zero, List.getElem?_cons_succ, Option.join_some, Option.map_some, Option.bind_some, List.length_cons, List.length_nil, Option.isSome_some, if_true, if_false, Bool.false_eq_true, Bool.false_xor, Bool.true_xor, and_self, Nat.reduceAdd, Nat.reduceLeDiff, reduceIte, List.append_nil, Bool.not_true, Bool.not_false, bYes_ap, gIsN_ap, isNoneD_int, isNoneD_none, Bool.not_not, List.set_set, ed2]
      refine ih f (set_get hl) (hm b2) hb2 (clS_set hc hb2.cl) (by omega) (by omega) fun b4 e hb4 he => ?_
      simp -implicitDefEqProofs only [WE_ok, WE_bind, WE_ite, WE_no, WS_nx, WS_rt, WS_bk, WS_ct, WS_lift, WS_seq, WS_ite, oRs_some, eVar_ap, eC_ap, eBin_ap, isB_bl, asB_ap, bAnd_ap, bOr_ap, bNot_ap, bTru_ap, eAnd_wp, eOr_wp, eNot_wp, andR_bl, orR_bl, notR_bl, decide_eq_true_eq, gAny_lst, gAll_lst, gSum_lst, chkOf_p, lItems_lst, eNeg_ap, eIf_ap, aNil_ap, aCons_ap, eTup_ap, eLst_ap, eLstO_ap, eB_ap, eCall_ap, eMth_ap, eIsi_ap, eSl_ap, oNone_ap, oSome_ap, eLc_ap, sSeq_ap, sNil_ap, sBrk_ap, sCnt_ap, sExpr_ap, rtO_some, sRetR_ap, sRetN_ap, sIf_ap, sSet_ap, nxG_ok, sAsg_ap, sAug_ap, gNm_ap, sFor_ap, iRgA_ap, iRgB_ap, iTpl_ap, iLst_ap, restD_p', restAll_nil, restAll_cons, gAdd_int, gAdd_str, gAdd_tup, gAdd_lst, gAddI_int, gSub_int, gMul_int, gMod_int, gFdv_int, gPow_int, gLt_int, gLe_int, gGt_int, gGe_int, gEq_int, gEq_str, gEq_bl, atI_nat', atI_0, atI_1, atI_2, atI_3, atI_4, atI_5, gIx_tup, gIx_lst, gIx_scr, gIx_ob, obL_lst, obL_fz, gLen_tup, gLen_lst, gLen_scr, gLen_ob, gToInt_int, gToInt_bl, gToStr_int, truD_bl, gMin2_int, gMax2_int, isLst_ob, isLst_lst, obO_lst, oLst_ob, appO_some, gApp_ap, gSetL_ap, okE_some, setL_ob, ixN_0, ixN_1, sizeLine_val, rngL_length, List.set_cons_zero, List.set_cons_succ, List.getElem?_cons_zero, List.getElem?_cons_succ, Option.join_some, Option.map_some, Option.bind_some, List.length_cons, List.length_nil, Option.isSome_some, if_true, if_false, Bool.false_eq_true, Bool.false_xor, Bool.true_xor, and_self, Nat.reduceAdd, Nat.reduceLeDiff, reduceIte, List.append_nil, Bool.not_true, Bool.not_false, bYes_ap, gIsN_ap, isNoneD_int, isNoneD_none, Bool.not_not, List.set_set]
      exact ⟨b4, .mb e, hb4, he, by trivial, by trivial⟩
end
end My

namespace My
open PySem PySem.Spec PyProof.Rows L2 DL
def stripAt (i : Nat) (t : Pt) : Prop := ∃ ac nm j e, t = .strip ac nm j e ∧ Ex.ok i 3 e
/-- leaves, and strips behind them -/
structure PsOk (wide strips : Nat) (Ps : List Pt) : Prop where
  ex : ∃ L T, Ps = L ++ T ∧ 2 ≤ L.length ∧ L.length ≤ 4 ∧ (∀ p ∈ L, p.leaf wide) ∧ T.length = strips ∧ ∀ i t, T[i]? = some t → stripAt (L.length + i) t
theorem PsOk.g {wide strips : Nat} {Ps : List Pt} (hw : wide ≤ 16) (h : PsOk wide strips Ps) : ∀ p ∈ Ps, p.g16 := by
  obtain ⟨L, T, rfl, h1, h2, h3, h4, h5⟩ := h.ex
  intro p hp
  rcases List.mem_append.mp hp with z | z
  · exact (h3 p z).g hw
  · obtain ⟨i, e⟩ := List.mem_iff_getElem?.mp z
    obtain ⟨ac, nm, j, ex, rfl, _⟩ := h5 i p e
    trivial
theorem PsOk.len {wide strips : Nat} {Ps : List Pt} (h : PsOk wide strips Ps) : 2 ≤ Ps.length ∧ Ps.length ≤ 4 + strips := by
  obtain ⟨L, T, rfl, h1, h2, h3, h4, h5⟩ := h.ex
  rw [List.length_append]
  omega
theorem PsOk.snoc {wide strips : Nat} {Ps : List Pt} {t : Pt} (h : PsOk wide strips Ps) (ht : stripAt Ps.length t) : PsOk wide (strips + 1) (Ps ++ [t]) := by
  obtain ⟨L, T, rfl, h1, h2, h3, h4, h5⟩ := h.ex
  refine ⟨L, T ++ [t], by simp, h1, h2, h3, by simp [h4], fun i t' e => ?_⟩
  by_cases hi : i < T.length
  · rw [List.getElem?_append_left hi] at e
    exact h5 i t' e
  · rw [List.getElem?_append_right (by omega)] at e
    have : i - T.length = 0 := by
      have := (List.getElem?_eq_some_iff.mp e).1
      simp at this
      omega
    rw [this] at e
    cases e
    rw [List.length_append] at ht
    rw [show L.length + i = L.length + T.length by omega]
    exact ht
theorem Ex.ok.up {n : Nat} : ∀ {d : Nat} {e : Ex}, e.ok n d → e.ok n (d + 1)
  | 0, .pl .., h => by simpa [Ex.ok] using h
  | d + 1, .pl .., h => by simpa [Ex.ok] using h
  | 0, .sq .., h => by simp [Ex.ok] at h
  | 0, .ch .., h => by simp [Ex.ok] at h
  | 0, .an .., h => by simp [Ex.ok] at h
  | 0, .so .., h => by simp [Ex.ok] at h
  | 0, .mb .., h => by simp [Ex.ok] at h
  | d + 1, .sq a b, h => by rw [Ex.ok] at h ⊢; exact ⟨h.1.up, h.2.up⟩
  | d + 1, .ch a b, h => by rw [Ex.ok] at h ⊢; exact ⟨h.1.up, h.2.up⟩
  | d + 1, .an a, h => by rw [Ex.ok] at h ⊢; exact h.up
  | d + 1, .so a, h => by rw [Ex.ok] at h ⊢; exact h.up
  | d + 1, .mb a, h => by rw [Ex.ok] at h ⊢; exact h.up
section
variable {S : Sto} {n : Nat} {b : O} {Q : D → Sto → Prop} {E : Xc → Sto → Prop}
theorem last_get {T : Sto} {x : O} : (T ++ [x])[T.length]? = some x := by simp
theorem lastn {o x : O} : (S.set n o ++ [x])[S.length]? = some x := by
  rw [List.getElem?_append_right (by simp)]; simp
theorem lasts {o x y : O} : (S.set n o ++ [x]).set S.length y = S.set n o ++ [y] := by
  rw [List.set_append_right _ _ (by simp)]; simp
theorem pyL_snoc {Ps : List Pt} {t : Pt} : O.lst ((Ps.map fun p => D.p p.py) ++ [D.p t.py]) = pyL (Ps ++ [t]) := by simp [pyL]
theorem parts_wp {wide strips : Nat} (hs : S[n]? = some b) (hb : IsBox b) (hc : ClS 0 S) (hw : 1 ≤ wide) (hw2 : wide ≤ 16) (hst : strips ≤ 8)
    (q : ∀ b' Ps, IsBox b' → PsOk wide strips Ps → Q (.p (.tuple (Ps.map Pt.py))) (S.set n b')) : WE (G_law_parts [.ob n, .int wide, .int strips] S) Q E := by
  have hl : n < S.length := (List.getElem?_eq_some_iff.mp hs).1
  have hne : n ≠ S.length := by omega
  have cl : ∀ {b' : O} {Ps : List Pt}, IsBox b' → ClS 0 (S.set n b' ++ [pyL Ps]) := fun hb' => clS_app (clS_set hc hb'.cl) (clS_one pyL_cl)
  refine WE_def (fun d S' => ∃ b' Ps T, IsBox b' ∧ PsOk wide strips Ps ∧ d = .p (.tuple (Ps.map Pt.py)) ∧ S' = S.set n b' ++ T) ?_ (fun d S' ⟨b', Ps, T, hb', hp, e1, e2⟩ => ⟨_, S.set n b', T, e1, e2, by simp, clS_set hc hb'.cl, q b' Ps hb' hp⟩)
  rw [show start0 NN_law_parts [.ob n, .int wide, .int strips] = [some (.ob n), some (.int wide), some (.int strips), none, none, none, none] from rfl]
  unfold B_law_parts
  refine WS_cut (fun ρ S1 => S1 = S.set n b ++ [pyL []] ∧ ρ = [some (.ob n), some (.int wide), some (.int strips), some (.ob S.length), none, none, none]) ?_ ?_
  · simp -implicitDefEqProofs only [WE_ok, WE_bind, WE_ite, WE_no, WS_nx, WS_rt, WS_bk, WS_ct, WS_lift, WS_seq, WS_ite, oRs_some, eVar_ap, eC_ap, eBin_ap, isB_bl, asB_ap, bAnd_ap, bOr_ap, bNot_ap, bTru_ap, eAnd_wp, eOr_wp, eNot_wp, andR_bl, orR_bl, notR_bl, decide_eq_true_eq, gAny_lst, gAll_lst, gSum_lst, chkOf_p, lItems_lst, eNeg_ap, eIf_ap, aNil_ap, aCons_ap, eTup_ap, eLst_ap, eLstO_ap, eB_ap, eCall_ap, eMth_ap, eIsi_ap, eSl_ap, oNone_ap, oSome_ap, eLc_ap, sSeq_ap, sNil_ap, sBrk_ap, sCnt_ap, sExpr_ap, rtO_some, sRetR_ap, sRetN_ap, sIf_ap, sSet_ap, nxG_ok, sAsg_ap, sAug_ap, gNm_ap, sFor_ap, iRgA_ap, iRgB_ap, iTpl_ap, iLst_ap, restD_p', restAll_nil, restAll_cons, gAdd_int, gAdd_str, gAdd_tup, gAdd_lst, gAddI_int, gSub_int, gMul_int, gMod_int, gFdv_int, gPow_int, gLt_int, gLe_int, gGt_int, gGe_int, gEq_int, gEq_str, gEq_bl, atI_nat', atI_0, atI_1, atI_2, atI_3, atI_4, atI_5, gIx_tup, gIx_lst, gIx_scr, gIx_ob, obL_lst, obL_fz, gLen_tup, gLen_lst, gLen_scr, gLen_ob, gToInt_int, gToInt_bl, gToStr_int, truD_bl, gMin2_int, gMax2_int, isLst_ob, isLst_lst, obO_lst, oLst_ob, appO_some, gApp_ap, gSetL_ap, okE_some, setL_ob, ixN_0, ixN_1, sizeLine_val, rngL_length, List.set_cons_zero, List.set_cons_succ, List.getElem?_cons_zero, List.getElem?_cons_succ, Option.join_some, Option.map_some, Option.bind_some, List.length_cons, List.length_nil, Option.isSome_some, if_true, if_false, Bool.false_eq_true, Bool.false_xor, Bool.true_xor, and_self, Nat.reduceAdd, Nat.reduceLeDiff, reduceIte, List.append_nil, Bool.not_true, Bool.not_false, bYes_ap, gIsN_ap, isNoneD_int, isNoneD_none, Bool.not_not]
    refine ⟨?_, by trivial⟩
    rw [← self_set hs]
    rfl
  rintro ρ S1 ⟨rfl, rfl⟩
  refine WS_cut (fun ρ S1 => ∃ b' Ps v4, IsBox b' ∧ PsOk wide 0 Ps ∧ S1 = S.set n b' ++ [pyL Ps] ∧ ρ = [some (.ob n), some (.int wide), some (.int strips), some (.ob S.length), v4, none, none]) ?_ ?_
  · simp -implicitDefEqProofs only [WE_ok, WE_bind, WE_ite, WE_no, WS_nx, WS_rt, WS_bk, WS_ct, WS_lift, WS_seq, WS_ite, oRs_some, eVar_ap, eC_ap, eBin_ap, isB_bl, asB_ap, bAnd_ap, bOr_ap, bNot_ap, bTru_ap, eAnd_wp, eOr_wp, eNot_wp, andR_bl, orR_bl, notR_bl, decide_eq_true_eq, gAny_lst, gAll_lst, gSum_lst, chkOf_p, lItems_lst, eNeg_ap, eIf_ap, aNil_ap, aCons_ap, eTup_ap, eLst_ap, eLstO_ap, eB_ap, eCall_ap, eMth_ap, eIsi_ap, eSl_ap, oNone_ap, oSome_ap, eLc_ap, sSeq_ap, sNil_ap, sBrk_ap, sCnt_ap, sExpr_ap, rtO_some, sRetR_ap, sRetN_ap, sIf_ap, sSet_ap, nxG_ok, sAsg_ap, sAug_ap, gNm_ap, sFor_ap, iRgA_ap, iRgB_ap, iTpl_ap, iLst_ap, restD_p', restAll_nil, restAll_cons, gAdd_int, gAdd_str, gAdd_tup, gAdd_lst, gAddI_int, gSub_int, gMul_int, gMod_int, gFdv_int, gPow_int, gLt_int, gLe_int, gGt_int, gGe_int, gEq_int, gEq_str, gEq_bl, atI_nat', atI_0, atI_1, atI_2, atI_3, atI_4, atI_5, gIx_tup, gIx_lst, gIx_scr, gIx_ob, obL_lst, obL_fz, gLen_tup, gLen_lst, gLen_scr, gLen_ob, gToInt_int, gToInt_bl, gToStr_int, truD_bl, gMin2_int, gMax2_int, isLst_ob, isLst_lst, obO_lst, oLst_ob, appO_some, gApp_ap, gSetL_ap, okE_some, setL_ob, ixN_0, ixN_1, sizeLine_val, rngL_length, List.set_cons_zero, List.set_cons_succ, List.getElem?_cons_zero, List.getElem?_cons_succ, Option.join_some, Option.map_some, Option.bind_some, List.length_cons, List.length_nil, Option.isSome_some, if_true, if_false, Bool.false_eq_true, Bool.false_xor, Bool.true_xor, and_self, Nat.reduceAdd, Nat.reduceLeDiff, reduceIte, List.append_nil, Bool.not_true, Bool.not_false, bYes_ap, gIsN_ap, isNoneD_int, isNoneD_none, Bool.not_not]
    refine draw_wp (get_set hl) hb (by decide) (cl hb) fun v b1 h0 h1 hb1 => ?_
    obtain ⟨v, rfl⟩ := Int.eq_ofNat_of_zero_le h0
    have bv : big62 (2 + (v : Int)) = true := big62_of (by omega) (by omega)
    simp -implicitDefEqProofs only [WE_ok, WE_bind, WE_ite, WE_no, WS_nx, WS_rt, WS_bk, WS_ct, WS_lift, WS_seq, WS_ite, oRs_some, eVar_ap, eC_ap, eBin_ap, isB_bl, asB_ap, bAnd_ap, bOr_ap, bNot_ap, bTru_ap, eAnd_wp, eOr_wp, eNot_wp, andR_bl, orR_bl, notR_bl, decide_eq_true_eq, gAny_lst, gAll_lst, gSum_lst, chkOf_p, lItems_lst, eNeg_ap, eIf_ap, aNil_ap, aCons_ap, eTup_ap, eLst_ap, eLstO_ap, eB_ap, eCall_ap, eMth_ap, eIsi_ap, eSl_ap, oNone_ap, oSome_ap, eLc_ap, sSeq_ap, sNil_ap, sBrk_ap, sCnt_ap, sExpr_ap, rtO_some, sRetR_ap, sRetN_ap, sIf_ap, sSet_ap, nxG_ok, sAsg_ap, sAug_ap, gNm_ap, sFor_ap, iRgA_ap, iRgB_ap, iTpl_ap, iLst_ap, restD_p', restAll_nil, restAll_cons, gAdd_int, gAdd_str, gAdd_tup, gAdd_lst, gAddI_int, gSub_int, gMul_int, gMod_int, gFdv_int, gPow_int, gLt_int, gLe_int, gGt_int, gGe_int, gEq_int, gEq_str, gEq_bl, atI_nat', atI_0, atI_1, atI_2, atI_3, atI_4, atI_5, gIx_tup, gIx_lst, gIx_scr, gIx_ob, obL_lst, obL_fz, gLen_tup, gLen_lst, gLen_scr, gLen_ob, gToInt_int, gToInt_bl, gToStr_int, truD_bl, gMin2_int, gMax2_int, isLst_ob, isLst_lst, obO_lst, oLst_ob, appO_some, gApp_ap, gSetL_ap, okE_some, setL_ob, ixN_0, ixN_1, sizeLine_val, rngL_length, List.set_cons_zero, List.set_cons_succ, List.getElem?_cons_zero, List.getElem?_cons_succ, Option.join_some, Option.map_some, Option.bind_some, List.length_cons, List.length_nil, Option.isSome_some, if_true, if_false, Bool.false_eq_true, Bool.false_xor, Bool.true_xor, and_self, Nat.reduceAdd, Nat.reduceLeDiff, reduceIte, List.append_nil, Bool.not_true, Bool.not_false, bYes_ap, gIsN_ap, isNoneD_int, isNoneD_none, Bool.not_not, set_app hl, bv]
    rw [show (2 + (v : Int)).toNat = 2 + v by omega]
    refine WS_for (fun i ρ S1 => ∃ b' Ps v4, IsBox b' ∧ Ps.length = i ∧ (∀ p ∈ Ps, Pt.leaf wide p) ∧ S1 = S.set n b' ++ [pyL Ps] ∧ ρ = [some (.ob n), some (.int wide), some (.int strips), some (.ob S.length), v4, none, none]) _ 0 _ _
      ⟨b1, [], none, hb1, rfl, (fun _ z => by cases z), rfl, rfl⟩ ?_ ?_
    · rintro i d ρ S2 hd ⟨b2, Ps, v4, hb2, hlen, hok, rfl, rfl⟩
      obtain ⟨hi, rfl⟩ := rngL_get hd
      simp -implicitDefEqProofs only [WE_ok, WE_bind, WE_ite, WE_no, WS_nx, WS_rt, WS_bk, WS_ct, WS_lift, WS_seq, WS_ite, oRs_some, eVar_ap, eC_ap, eBin_ap, isB_bl, asB_ap, bAnd_ap, bOr_ap, bNot_ap, bTru_ap, eAnd_wp, eOr_wp, eNot_wp, andR_bl, orR_bl, notR_bl, decide_eq_true_eq, gAny_lst, gAll_lst, gSum_lst, chkOf_p, lItems_lst, eNeg_ap, eIf_ap, aNil_ap, aCons_ap, eTup_ap, eLst_ap, eLstO_ap, eB_ap, eCall_ap, eMth_ap, eIsi_ap, eSl_ap, oNone_ap, oSome_ap, eLc_ap, sSeq_ap, sNil_ap, sBrk_ap, sCnt_ap, sExpr_ap, rtO_some, sRetR_ap, sRetN_ap, sIf_ap, sSet_ap, nxG_ok, sAsg_ap, sAug_ap, gNm_ap, sFor_ap, iRgA_ap, iRgB_ap, iTpl_ap, iLst_ap, restD_p', restAll_nil, restAll_cons, gAdd_int, gAdd_str, gAdd_tup, gAdd_lst, gAddI_int, gSub_int, gMul_int, gMod_int, gFdv_int, gPow_int, gLt_int, gLe_int, gGt_int, gGe_int, gEq_int, gEq_str, gEq_bl, atI_nat', atI_0, atI_1, atI_2, atI_3, atI_4, atI_5, gIx_tup, gIx_lst, gIx_scr, gIx_ob, obL_lst, obL_fz, gLen_tup, gLen_lst, gLen_scr, gLen_ob, gToInt_int, gToInt_bl, gToStr_int, truD_bl, gMin2_int, gMax2_int, isLst_ob, isLst_lst, obO_lst, oLst_ob, appO_some, gApp_ap, gSetL_ap, okE_some, setL_ob, ixN_0, ixN_1, sizeLine_val, rngL_length, List.set_cons_zero, List.set_cons_succ, List.getElem?_cons_zero, List.getElem?_cons_succ, Option.join_some, Option.map_some, Option.bind_some, List.length_cons, List.length_nil, Option.isSome_some, if_true, if_false, Bool.false_eq_true, Bool.false_xor, Bool.true_xor, and_self, Nat.reduceAdd, Nat.reduceLeDiff, reduceIte, List.append_nil, Bool.not_true, Bool.not_false, bYes_ap, gIsN_ap, isNoneD_int, isNoneD_none, Bool.not_not, lastn, Int.zero_add]
      refine leaf_wp (get_set hl) hb2 (cl hb2) (by omega) hw hw2 fun b3 pt hb3 hpt => ?_
      have hL : Ps.length < 16777216 := by omega
      simp -implicitDefEqProofs only [WE_ok, WE_bind, WE_ite, WE_no, WS_nx, WS_rt, WS_bk, WS_ct, WS_lift, WS_seq, WS_ite, oRs_some, eVar_ap, eC_ap, eBin_ap, isB_bl, asB_ap, bAnd_ap, bOr_ap, bNot_ap, bTru_ap, eAnd_wp, eOr_wp, eNot_wp, andR_bl, orR_bl, notR_bl, decide_eq_true_eq, gAny_lst, gAll_lst, gSum_lst, chkOf_p, lItems_lst, eNeg_ap, eIf_ap, aNil_ap, aCons_ap, eTup_ap, eLst_ap, eLstO_ap, eB_ap, eCall_ap, eMth_ap, eIsi_ap, eSl_ap, oNone_ap, oSome_ap, eLc_ap, sSeq_ap, sNil_ap, sBrk_ap, sCnt_ap, sExpr_ap, rtO_some, sRetR_ap, sRetN_ap, sIf_ap, sSet_ap, nxG_ok, sAsg_ap, sAug_ap, gNm_ap, sFor_ap, iRgA_ap, iRgB_ap, iTpl_ap, iLst_ap, restD_p', restAll_nil, restAll_cons, gAdd_int, gAdd_str, gAdd_tup, gAdd_lst, gAddI_int, gSub_int, gMul_int, gMod_int, gFdv_int, gPow_int, gLt_int, gLe_int, gGt_int, gGe_int, gEq_int, gEq_str, gEq_bl, atI_nat', atI_0, atI_1, atI_2, atI_3, atI_4, atI_5, gIx_tup, gIx_lst, gIx_scr, gIx_ob, obL_lst, obL_fz, gLen_tup, gLen_lst, gLen_scr, gLen_ob, gToInt_int, gToInt_bl, gToStr_int, truD_bl, gMin2_int, gMax2_int, isLst_ob, isLst_lst, obO_lst, oLst_ob, appO_some, gApp_ap, gSetL_ap, okE_some, setL_ob, ixN_0, ixN_1, sizeLine_val, rngL_length, List.set_cons_zero, List.set_cons_succ, List.getElem?_cons_zero, List.getElem?_cons_succ, Option.join_some, Option.map_some, Option.bind_some, List.length_cons, List.length_nil, Option.isSome_some, if_true, if_false, Bool.false_eq_true, Bool.false_xor, Bool.true_xor, and_self, Nat.reduceAdd, Nat.reduceLeDiff, reduceIte, List.append_nil, Bool.not_true, Bool.not_false, bYes_ap, gIsN_ap, isNoneD_int, isNoneD_none, Bool.not_not, set_app hl, lastn, List.length_map, hL, lasts, pyL_snoc]
      refine ⟨trivial, b3, Ps ++ [pt], some (.int i), hb3, by simp [hlen], fun p hp => ?_, by trivial, by trivial⟩
      rcases List.mem_append.mp hp with z | z
      · exact hok p z
      · rw [List.mem_singleton.mp z]; exact hpt
    · rintro ρ S2 ⟨b2, Ps, v4, hb2, hlen, hok, rfl, rfl⟩
      rw [rngL_length] at hlen
      exact ⟨b2, Ps, v4, hb2, ⟨Ps, [], by simp, by omega, by omega, hok, rfl, fun i t e => by simp at e⟩, rfl, rfl⟩
  rintro ρ S1 ⟨b1, Ps, v4, hb1, hps, rfl, rfl⟩
  refine WS_cut (fun ρ S1 => ∃ b' Ps v4 v5 v6, IsBox b' ∧ PsOk wide strips Ps ∧ S1 = S.set n b' ++ [pyL Ps] ∧ ρ = [some (.ob n), some (.int wide), some (.int strips), some (.ob S.length), v4, v5, v6]) ?_ ?_
  · have bs : big62 (strips : Int) = true := big62_nat (by omega)
    simp -implicitDefEqProofs only [WE_ok, WE_bind, WE_ite, WE_no, WS_nx, WS_rt, WS_bk, WS_ct, WS_lift, WS_seq, WS_ite, oRs_some, eVar_ap, eC_ap, eBin_ap, isB_bl, asB_ap, bAnd_ap, bOr_ap, bNot_ap, bTru_ap, eAnd_wp, eOr_wp, eNot_wp, andR_bl, orR_bl, notR_bl, decide_eq_true_eq, gAny_lst, gAll_lst, gSum_lst, chkOf_p, lItems_lst, eNeg_ap, eIf_ap, aNil_ap, aCons_ap, eTup_ap, eLst_ap, eLstO_ap, eB_ap, eCall_ap, eMth_ap, eIsi_ap, eSl_ap, oNone_ap, oSome_ap, eLc_ap, sSeq_ap, sNil_ap, sBrk_ap, sCnt_ap, sExpr_ap, rtO_some, sRetR_ap, sRetN_ap, sIf_ap, sSet_ap, nxG_ok, sAsg_ap, sAug_ap, gNm_ap, sFor_ap, iRgA_ap, iRgB_ap, iTpl_ap, iLst_ap, restD_p', restAll_nil, restAll_cons, gAdd_int, gAdd_str, gAdd_tup, gAdd_lst, gAddI_int, gSub_int, gMul_int, gMod_int, gFdv_int, gPow_int, gLt_int, gLe_int, gGt_int, gGe_int, gEq_int, gEq_str, gEq_bl, atI_nat', atI_0, atI_1, atI_2, atI_3, atI_4, atI_5, gIx_tup, gIx_lst, gIx_scr, gIx_ob, obL_lst, obL_fz, gLen_tup, gLen_lst, gLen_scr, gLen_ob, gToInt_int, gToInt_bl, gToStr_int, truD_bl, gMin2_int, gMax2_int, isLst_ob, isLst_lst, obO_lst, oLst_ob, appO_some, gApp_ap, gSetL_ap, okE_some, setL_ob, ixN_0, ixN_1, sizeLine_val, rngL_length, List.set_cons_zero, List.set_cons_succ, List.getElem?_cons_zero, List.getElem?_cons_succ, Option.join_some, Option.map_some, Option.bind_some, List.length_cons, List.length_nil, Option.isSome_some, if_true, if_false, Bool.false_eq_true, Bool.false_xor, Bool.true_xor, and_self, Nat.reduceAdd, Nat.reduceLeDiff, reduceIte, List.append_nil, Bool.not_true, Bool.not_false, bYes_ap, gIsN_ap, isNoneD_int, isNoneD_none, Bool.not_not, bs, Int.toNat_natCast]
    refine WS_for (fun i ρ S1 => ∃ b' Ps v4 v5 v6, IsBox b' ∧ PsOk wide i Ps ∧ S1 = S.set n b' ++ [pyL Ps] ∧ ρ = [some (.ob n), some (.int wide), some (.int strips), some (.ob S.length), v4, v5, v6]) _ 0 _ _
      ⟨b1, Ps, v4, none, none, hb1, hps, rfl, rfl⟩ ?_ ?_
    · rintro i d ρ S2 hd ⟨b2, Ps, v4, v5, v6, hb2, hps, rfl, rfl⟩
      obtain ⟨hi, rfl⟩ := rngL_get hd
      have hlog := toStr_log (show i < 1000 by omega)
      have hlen := toStr_len (show i < 1000 by omega)
      have p1 : (Str.ofString "s").length = 1 := by decide +kernel
      simp only [gNm_ap, WE_ok, List.set_cons_succ, List.set_cons_zero, Int.zero_add]
      refine WS_cut (fun ρ S1 => ∃ b' ac, IsBox b' ∧ S1 = S.set n b' ++ [pyL Ps] ∧ ρ = [some (.ob n), some (.int wide), some (.int strips), some (.ob S.length), some (.int (i : Int)), some (.str (dirS ac)), v6]) ?_ ?_
      · simp -implicitDefEqProofs only [WE_ok, WE_bind, WE_ite, WE_no, WS_nx, WS_rt, WS_bk, WS_ct, WS_lift, WS_seq, WS_ite, oRs_some, eVar_ap, eC_ap, eBin_ap, isB_bl, asB_ap, bAnd_ap, bOr_ap, bNot_ap, bTru_ap, eAnd_wp, eOr_wp, eNot_wp, andR_bl, orR_bl, notR_bl, decide_eq_true_eq, gAny_lst, gAll_lst, gSum_lst, chkOf_p, lItems_lst, eNeg_ap, eIf_ap, aNil_ap, aCons_ap, eTup_ap, eLst_ap, eLstO_ap, eB_ap, eCall_ap, eMth_ap, eIsi_ap, eSl_ap, oNone_ap, oSome_ap, eLc_ap, sSeq_ap, sNil_ap, sBrk_ap, sCnt_ap, sExpr_ap, rtO_some, sRetR_ap, sRetN_ap, sIf_ap, sSet_ap, nxG_ok, sAsg_ap, sAug_ap, gNm_ap, sFor_ap, iRgA_ap, iRgB_ap, iTpl_ap, iLst_ap, restD_p', restAll_nil, restAll_cons, gAdd_int, gAdd_str, gAdd_tup, gAdd_lst, gAddI_int, gSub_int, gMul_int, gMod_int, gFdv_int, gPow_int, gLt_int, gLe_int, gGt_int, gGe_int, gEq_int, gEq_str, gEq_bl, atI_nat', atI_0, atI_1, atI_2, atI_3, atI_4, atI_5, gIx_tup, gIx_lst, gIx_scr, gIx_ob, obL_lst, obL_fz, gLen_tup, gLen_lst, gLen_scr, gLen_ob, gToInt_int, gToInt_bl, gToStr_int, truD_bl, gMin2_int, gMax2_int, isLst_ob, isLst_lst, obO_lst, oLst_ob, appO_some, gApp_ap, gSetL_ap, okE_some, setL_ob, ixN_0, ixN_1, sizeLine_val, rngL_length, List.set_cons_zero, List.set_cons_succ, List.getElem?_cons_zero, List.getElem?_cons_succ, Option.join_some, Option.map_some, Option.bind_some, List.length_cons, List.length_nil, Option.isSome_some, if_true, if_false, Bool.false_eq_true, Bool.false_xor, Bool.true_xor, and_self, Nat.reduceAdd, Nat.reduceLeDiff, reduceIte, List.append_nil, Bool.not_true, Bool.not_false, bYes_ap, gIsN_ap, isNoneD_int, isNoneD_none, Bool.not_not]
        refine draw_wp (get_set hl) hb2 (by decide) (cl hb2) fun v b3 h0 h1 hb3 => ?_
        have h2 : v = 0 ∨ v = 1 := by omega
        rcases h2 with rfl | rfl
        · simp -implicitDefEqProofs only [WE_ok, WE_bind, WE_ite, WE_no, WS_nx, WS_rt, WS_bk, WS_ct, WS_lift, WS_seq, WS_ite, oRs_some, eVar_ap, eC_ap, eBin_ap, isB_bl, asB_ap, bAnd_ap, bOr_ap, bNot_ap, bTru_ap, eAnd_wp, eOr_wp, eNot_wp, andR_bl, orR_bl, notR_bl, decide_eq_true_eq, gAny_lst, gAll_lst, gSum_lst, chkOf_p, lItems_lst, eNeg_ap, eIf_ap, aNil_ap, aCons_ap, eTup_ap, eLst_ap, eLstO_ap, eB_ap, eCall_ap, eMth_ap, eIsi_ap, eSl_ap, oNone_ap, oSome_ap, eLc_ap, sSeq_ap, sNil_ap, sBrk_ap, sCnt_ap, sExpr_ap, rtO_some, sRetR_ap, sRetN_ap, sIf_ap, sSet_ap, nxG_ok, sAsg_ap, sAug_ap, gNm_ap, sFor_ap, iRgA_ap, iRgB_ap, iTpl_ap, iLst_ap, restD_p', restAll_nil, restAll_cons, gAdd_int, gAdd_str, gAdd_tup, gAdd_lst, gAddI_int, gSub_int, gMul_int, gMod_int, gFdv_int, gPow_int, gLt_int, gLe_int, gGt_int, gGe_int, gEq_int, gEq_str, gEq_bl, atI_nat', atI_0, atI_1, atI_2, atI_3, atI_4, atI_5, gIx_tup, gIx_lst, gIx_scr, gIx_ob, obL_lst, obL_fz, gLen_tup, gLen_lst, gLen_scr, gLen_ob, gToInt_int, gToInt_bl, gToStr_int, truD_bl, gMin2_int, gMax2_int, isLst_ob, isLst_lst, obO_lst, oLst_ob, appO_some, gApp_ap, gSetL_ap, okE_some, setL_ob, ixN_0, ixN_1, sizeLine_val, rngL_length, List.set_cons_zero, List.set_cons_succ, List.getElem?_cons_zero, List.getElem?_cons_succ, Option.join_some, Option.map_some, Option.bind_some, List.length_cons, List.length_nil, Option.isSome_some, if_true, if_false, Bool.false_eq_true, Bool.false_xor, Bool.true_xor, and_self, Nat.reduceAdd, Nat.reduceLeDiff, reduceIte, List.append_nil, Bool.not_true, Bool.not_false, bYes_ap, gIsN_ap, isNoneD_int, isNoneD_none, Bool.not_not, set_app hl]
          exact ⟨b3, true, hb3, by trivial, by trivial⟩
        · simp -implicitDefEqProofs only [WE_ok, WE_bind, WE_ite, WE_no, WS_nx, WS_rt, WS_bk, WS_ct, WS_lift, WS_seq, WS_ite, oRs_some, eVar_ap, eC_ap, eBin_ap, isB_bl, asB_ap, bAnd_ap, bOr_ap, bNot_ap, bTru_ap, eAnd_wp, eOr_wp, eNot_wp, andR_bl, orR_bl, notR_bl, decide_eq_true_eq, gAny_lst, gAll_lst, gSum_lst, chkOf_p, lItems_lst, eNeg_ap, eIf_ap, aNil_ap, aCons_ap, eTup_ap, eLst_ap, eLstO_ap, eB_ap, eCall_ap, eMth_ap, eIsi_ap, eSl_ap, oNone_ap, oSome_ap, eLc_ap, sSeq_ap, sNil_ap, sBrk_ap, sCnt_ap, sExpr_ap, rtO_some, sRetR_ap, sRetN_ap, sIf_ap, sSet_ap, nxG_ok, sAsg_ap, sAug_ap, gNm_ap, sFor_ap, iRgA_ap, iRgB_ap, iTpl_ap, iLst_ap, restD_p', restAll_nil, restAll_cons, gAdd_int, gAdd_str, gAdd_tup, gAdd_lst, gAddI_int, gSub_int, gMul_int, gMod_int, gFdv_int, gPow_int, gLt_int, gLe_int, gGt_int, gGe_int, gEq_int, gEq_str, gEq_bl, atI_nat', atI_0, atI_1, atI_2, atI_3, atI_4, atI_5, gIx_tup, gIx_lst, gIx_scr, gIx_ob, obL_lst, obL_fz, gLen_tup, gLen_lst, gLen_scr, gLen_ob, gToInt_int, gToInt_bl, gToStr_int, truD_bl, gMin2_int, gMax2_int, isLst_ob, isLst_lst, obO_lst, oLst_ob, appO_some, gApp_ap, gSetL_ap, okE_some, setL_ob, ixN_0, ixN_1, sizeLine_val, rngL_length, List.set_cons_zero, List.set_cons_succ, List.getElem?_cons_zero, List.getElem?_cons_succ, Option.join_some, Option.map_some, Option.bind_some, List.length_cons, List.length_nil, Option.isSome_some, if_true, if_false, Bool.false_eq_true, Bool.false_xor, Bool.true_xor, and_self, Nat.reduceAdd, Nat.reduceLeDiff, reduceIte, List.append_nil, Bool.not_true, Bool.not_false, bYes_ap, gIsN_ap, isNoneD_int, isNoneD_none, Bool.not_not, set_app hl]
          exact ⟨b3, false, hb3, by trivial, by trivial⟩
      rintro ρ S3 ⟨b3, ac, hb3, rfl, rfl⟩
      have hPl := hps.len
      refine WS_cut (fun ρ S1 => ∃ b' k e, (k = "any" ∨ k = "some") ∧ IsBox b' ∧ Ex.ok Ps.length 2 e ∧ S1 = S.set n b' ++ [pyL Ps] ∧ ρ = [some (.ob n), some (.int wide), some (.int strips), some (.ob S.length), some (.int (i : Int)), some (.str (dirS ac)), some (.p (.tuple [.str k, e.py]))]) ?_ ?_
      · simp -implicitDefEqProofs only [WE_ok, WE_bind, WE_ite, WE_no, WS_nx, WS_rt, WS_bk, WS_ct, WS_lift, WS_seq, WS_ite, oRs_some, eVar_ap, eC_ap, eBin_ap, isB_bl, asB_ap, bAnd_ap, bOr_ap, bNot_ap, bTru_ap, eAnd_wp, eOr_wp, eNot_wp, andR_bl, orR_bl, notR_bl, decide_eq_true_eq, gAny_lst, gAll_lst, gSum_lst, chkOf_p, lItems_lst, eNeg_ap, eIf_ap, aNil_ap, aCons_ap, eTup_ap, eLst_ap, eLstO_ap, eB_ap, eCall_ap, eMth_ap, eIsi_ap, eSl_ap, oNone_ap, oSome_ap, eLc_ap, sSeq_ap, sNil_ap, sBrk_ap, sCnt_ap, sExpr_ap, rtO_some, sRetR_ap, sRetN_ap, sIf_ap, sSet_ap, nxG_ok, sAsg_ap, sAug_ap, gNm_ap, sFor_ap, iRgA_ap, iRgB_ap, iTpl_ap, iLst_ap, restD_p', restAll_nil, restAll_cons, gAdd_int, gAdd_str, gAdd_tup, gAdd_lst, gAddI_int, gSub_int, gMul_int, gMod_int, gFdv_int, gPow_int, gLt_int, gLe_int, gGt_int, gGe_int, gEq_int, gEq_str, gEq_bl, atI_nat', atI_0, atI_1, atI_2, atI_3, atI_4, atI_5, gIx_tup, gIx_lst, gIx_scr, gIx_ob, obL_lst, obL_fz, gLen_tup, gLen_lst, gLen_scr, gLen_ob, gToInt_int, gToInt_bl, gToStr_int, truD_bl, gMin2_int, gMax2_int, isLst_ob, isLst_lst, obO_lst, oLst_ob, appO_some, gApp_ap, gSetL_ap, okE_some, setL_ob, ixN_0, ixN_1, sizeLine_val, rngL_length, List.set_cons_zero, List.set_cons_succ, List.getElem?_cons_zero, List.getElem?_cons_succ, Option.join_some, Option.map_some, Option.bind_some, List.length_cons, List.length_nil, Option.isSome_some, if_true, if_false, Bool.false_eq_true, Bool.false_xor, Bool.true_xor, and_self, Nat.reduceAdd, Nat.reduceLeDiff, reduceIte, List.append_nil, Bool.not_true, Bool.not_false, bYes_ap, gIsN_ap, isNoneD_int, isNoneD_none, Bool.not_not]
        refine draw_wp (get_set hl) hb3 (by decide) (cl hb3) fun v b4 h0 h1 hb4 => ?_
        have h2 : v = 0 ∨ v = 1 ∨ v = 2 := by omega
        have fin : ∀ k : Str, (k = "any" ∨ k = "some") → WE (G_law_choice 4 [.ob n, .ob S.length, .str (dirS ac), .int 2] (S.set n b4 ++ [pyL Ps])) (fun d S1 => ∃ b' e, d = .p e.py ∧ IsBox b' ∧ Ex.ok Ps.length 2 e ∧ S1 = S.set n b' ++ [pyL Ps]) (fun _ _ => False) := fun k hk => by
          refine choice_wp (n := n) (m := S.length) hne (hps.g hw2) (by omega) (by omega) 2 4 (get_set hl) lastn hb4 (cl hb4) (by decide) (by decide) fun b5 e hb5 he => ?_
          exact ⟨b5, e, rfl, hb5, he, by rw [set_app hl]⟩
        rcases h2 with rfl | rfl | rfl
        · simp -implicitDefEqProofs only [WE_ok, WE_bind, WE_ite, WE_no, WS_nx, WS_rt, WS_bk, WS_ct, WS_lift, WS_seq, WS_ite, oRs_some, eVar_ap, eC_ap, eBin_ap, isB_bl, asB_ap, bAnd_ap, bOr_ap, bNot_ap, bTru_ap, eAnd_wp, eOr_wp, eNot_wp, andR_bl, orR_bl, notR_bl, decide_eq_true_eq, gAny_lst, gAll_lst, gSum_lst, chkOf_p, lItems_lst, eNeg_ap, eIf_ap, aNil_ap, aCons_ap, eTup_ap, eLst_ap, eLstO_ap, eB_ap, eCall_ap, eMth_ap, eIsi_ap, eSl_ap, oNone_ap, oSome_ap, eLc_ap, sSeq_ap, sNil_ap, sBrk_ap, sCnt_ap, sExpr_ap, rtO_some, sRetR_ap, sRetN_ap, sIf_ap, sSet_ap, nxG_ok, sAsg_ap, sAug_ap, gNm_ap, sFor_ap, iRgA_ap, iRgB_ap, iTpl_ap, iLst_ap, restD_p', restAll_nil, restAll_cons, gAdd_int, gAdd_str, gAdd_tup, gAdd_lst, gAddI_int, gSub_int, gMul_int, gMod_int, gFdv_int, gPow_int, gLt_int, gLe_int, gGt_int, gGe_int, gEq_int, gEq_str, gEq_bl, atI_nat', atI_0, atI_1, atI_2, atI_3, atI_4, atI_5, gIx_tup, gIx_lst, gIx_scr, gIx_ob, obL_lst, obL_fz, gLen_tup, gLen_lst, gLen_scr, gLen_ob, gToInt_int, gToInt_bl, gToStr_int, truD_bl, gMin2_int, gMax2_int, isLst_ob, isLst_lst, obO_lst, oLst_ob, appO_some, gApp_ap, gSetL_ap, okE_some, setL_ob, ixN_0, ixN_1, sizeLine_val, rngL_length, List.set_cons_zero, List.set_cons_succ, List.getElem?_cons_zero, List.getElem?_cons_succ, Option.join_some, Option.map_some, Option.bind_some, List.length_cons, List.length_nil, Option.isSome_some, if_true, if_false, Bool.false_eq_true, Bool.false_xor, Bool.true_xor, and_self, Nat.reduceAdd, Nat.reduceLeDiff, reduceIte, List.append_nil, Bool.not_true, Bool.not_false, bYes_ap, gIsN_ap, isNoneD_int, isNoneD_none, Bool.not_not, set_app hl]
          refine WE_mono (fin "any" (.inl rfl)) (fun d S1 ⟨b5, e, ed, hb5, he, es⟩ => ?_) (fun _ _ z => z)
          subst ed es
          simp -implicitDefEqProofs only [WE_ok, WE_bind, WE_ite, WE_no, WS_nx, WS_rt, WS_bk, WS_ct, WS_lift, WS_seq, WS_ite, oRs_some, eVar_ap, eC_ap, eBin_ap, isB_bl, asB_ap, bAnd_ap, bOr_ap, bNot_ap, bTru_ap, eAnd_wp, eOr_wp, eNot_wp, andR_bl, orR_bl, notR_bl, decide_eq_true_eq, gAny_lst, gAll_lst, gSum_lst, chkOf_p, lItems_lst, eNeg_ap, eIf_ap, aNil_ap, aCons_ap, eTup_ap, eLst_ap, eLstO_ap, eB_ap, eCall_ap, eMth_ap, eIsi_ap, eSl_ap, oNone_ap, oSome_ap, eLc_ap, sSeq_ap, sNil_ap, sBrk_ap, sCnt_ap, sExpr_ap, rtO_some, sRetR_ap, sRetN_ap, sIf_ap, sSet_ap, nxG_ok, sAsg_ap, sAug_ap, gNm_ap, sFor_ap, iRgA_ap, iRgB_ap, iTpl_ap, iLst_ap, restD_p', restAll_nil, restAll_cons, gAdd_int, gAdd_str, gAdd_tup, gAdd_lst, gAddI_int, gSub_int, gMul_int, gMod_int, gFdv_int, gPow_int, gLt_int, gLe_int, gGt_int, gGe_int, gEq_int, gEq_str, gEq_bl, atI_nat', atI_0, atI_1, atI_2, atI_3, atI_4, atI_5, gIx_tup, gIx_lst, gIx_scr, gIx_ob, obL_lst, obL_fz, gLen_tup, gLen_lst, gLen_scr, gLen_ob, gToInt_int, gToInt_bl, gToStr_int, truD_bl, gMin2_int, gMax2_int, isLst_ob, isLst_lst, obO_lst, oLst_ob, appO_some, gApp_ap, gSetL_ap, okE_some, setL_ob, ixN_0, ixN_1, sizeLine_val, rngL_length, List.set_cons_zero, List.set_cons_succ, List.getElem?_cons_zero, List.getElem?_cons_succ, Option.join_some, Option.map_some, Option.bind_some, List.length_cons, List.length_nil, Option.isSome_some, if_true, if_false, Bool.false_eq_true, Bool.false_xor, Bool.true_xor, and_self, Nat.reduceAdd, Nat.reduceLeDiff, reduceIte, List.append_nil, Bool.not_true, Bool.not_false, bYes_ap, gIsN_ap, isNoneD_int, isNoneD_none, Bool.not_not]
          exact ⟨b5, "any", e, .inl rfl, hb5, he, by trivial, by trivial⟩
        · simp -implicitDefEqProofs only [WE_ok, WE_bind, WE_ite, WE_no, WS_nx, WS_rt, WS_bk, WS_ct, WS_lift, WS_seq, WS_ite, oRs_some, eVar_ap, eC_ap, eBin_ap, isB_bl, asB_ap, bAnd_ap, bOr_ap, bNot_ap, bTru_ap, eAnd_wp, eOr_wp, eNot_wp, andR_bl, orR_bl, notR_bl, decide_eq_true_eq, gAny_lst, gAll_lst, gSum_lst, chkOf_p, lItems_lst, eNeg_ap, eIf_ap, aNil_ap, aCons_ap, eTup_ap, eLst_ap, eLstO_ap, eB_ap, eCall_ap, eMth_ap, eIsi_ap, eSl_ap, oNone_ap, oSome_ap, eLc_ap, sSeq_ap, sNil_ap, sBrk_ap, sCnt_ap, sExpr_ap, rtO_some, sRetR_ap, sRetN_ap, sIf_ap, sSet_ap, nxG_ok, sAsg_ap, sAug_ap, gNm_ap, sFor_ap, iRgA_ap, iRgB_ap, iTpl_ap, iLst_ap, restD_p', restAll_nil, restAll_cons, gAdd_int, gAdd_str, gAdd_tup, gAdd_lst, gAddI_int, gSub_int, gMul_int, gMod_int, gFdv_int, gPow_int, gLt_int, gLe_int, gGt_int, gGe_int, gEq_int, gEq_str, gEq_bl, atI_nat', atI_0, atI_1, atI_2, atI_3, atI_4, atI_5, gIx_tup, gIx_lst, gIx_scr, gIx_ob, obL_lst, obL_fz, gLen_tup, gLen_lst, gLen_scr, gLen_ob, gToInt_int, gToInt_bl, gToStr_int, truD_bl, gMin2_int, gMax2_int, isLst_ob, isLst_lst, obO_lst, oLst_ob, appO_some, gApp_ap, gSetL_ap, okE_some, setL_ob, ixN_0, ixN_1, sizeLine_val, rngL_length, List.set_cons_zero, List.set_cons_succ, List.getElem?_cons_zero, List.getElem?_cons_succ, Option.join_some, Option.map_some, Option.bind_some, List.length_cons, List.length_nil, Option.isSome_some, if_true, if_false, Bool.false_eq_true, Bool.false_xor, Bool.true_xor, and_self, Nat.reduceAdd, Nat.reduceLeDiff, reduceIte, List.append_nil, Bool.not_true, Bool.not_false, bYes_ap, gIsN_ap, isNoneD_int, isNoneD_none, Bool.not_not, set_app hl]
          refine WE_mono (fin "some" (.inr rfl)) (fun d S1 ⟨b5, e, ed, hb5, he, es⟩ => ?_) (fun _ _ z => z)
          subst ed es
          simp -implicitDefEqProofs only [WE_ok, WE_bind, WE_ite, WE_no, WS_nx, WS_rt, WS_bk, WS_ct, WS_lift, WS_seq, WS_ite, oRs_some, eVar_ap, eC_ap, eBin_ap, isB_bl, asB_ap, bAnd_ap, bOr_ap, bNot_ap, bTru_ap, eAnd_wp, eOr_wp, eNot_wp, andR_bl, orR_bl, notR_bl, decide_eq_true_eq, gAny_lst, gAll_lst, gSum_lst, chkOf_p, lItems_lst, eNeg_ap, eIf_ap, aNil_ap, aCons_ap, eTup_ap, eLst_ap, eLstO_ap, eB_ap, eCall_ap, eMth_ap, eIsi_ap, eSl_ap, oNone_ap, oSome_ap, eLc_ap, sSeq_ap, sNil_ap, sBrk_ap, sCnt_ap, sExpr_ap, rtO_some, sRetR_ap, sRetN_ap, sIf_ap, sSet_ap, nxG_ok, sAsg_ap, sAug_ap, gNm_ap, sFor_ap, iRgA_ap, iRgB_ap, iTpl_ap, iLst_ap, restD_p', restAll_nil, restAll_cons, gAdd_int, gAdd_str, gAdd_tup, gAdd_lst, gAddI_int, gSub_int, gMul_int, gMod_int, gFdv_int, gPow_int, gLt_int, gLe_int, gGt_int, gGe_int, gEq_int, gEq_str, gEq_bl, atI_nat', atI_0, atI_1, atI_2, atI_3, atI_4, atI_5, gIx_tup, gIx_lst, gIx_scr, gIx_ob, obL_lst, obL_fz, gLen_tup, gLen_lst, gLen_scr, gLen_ob, gToInt_int, gToInt_bl, gToStr_int, truD_bl, gMin2_int, gMax2_int, isLst_ob, isLst_lst, obO_lst, oLst_ob, appO_some, gApp_ap, gSetL_ap, okE_some, setL_ob, ixN_0, ixN_1, sizeLine_val, rngL_length, List.set_cons_zero, List.set_cons_succ, List.getElem?_cons_zero, List.getElem?_cons_succ, Option.join_some, Option.map_some, Option.bind_some, List.length_cons, List.length_nil, Option.isSome_some, if_true, if_false, Bool.false_eq_true, Bool.false_xor, Bool.true_xor, and_self, Nat.reduceAdd, Nat.reduceLeDiff, reduceIte, List.append_nil, Bool.not_true, Bool.not_false, bYes_ap, gIsN_ap, isNoneD_int, isNoneD_none, Bool.not_not]
          exact ⟨b5, "some", e, .inr rfl, hb5, he, by trivial, by trivial⟩
        · simp -implicitDefEqProofs only [WE_ok, WE_bind, WE_ite, WE_no, WS_nx, WS_rt, WS_bk, WS_ct, WS_lift, WS_seq, WS_ite, oRs_some, eVar_ap, eC_ap, eBin_ap, isB_bl, asB_ap, bAnd_ap, bOr_ap, bNot_ap, bTru_ap, eAnd_wp, eOr_wp, eNot_wp, andR_bl, orR_bl, notR_bl, decide_eq_true_eq, gAny_lst, gAll_lst, gSum_lst, chkOf_p, lItems_lst, eNeg_ap, eIf_ap, aNil_ap, aCons_ap, eTup_ap, eLst_ap, eLstO_ap, eB_ap, eCall_ap, eMth_ap, eIsi_ap, eSl_ap, oNone_ap, oSome_ap, eLc_ap, sSeq_ap, sNil_ap, sBrk_ap, sCnt_ap, sExpr_ap, rtO_some, sRetR_ap, sRetN_ap, sIf_ap, sSet_ap, nxG_ok, sAsg_ap, sAug_ap, gNm_ap, sFor_ap, iRgA_ap, iRgB_ap, iTpl_ap, iLst_ap, restD_p', restAll_nil, restAll_cons, gAdd_int, gAdd_str, gAdd_tup, gAdd_lst, gAddI_int, gSub_int, gMul_int, gMod_int, gFdv_int, gPow_int, gLt_int, gLe_int, gGt_int, gGe_int, gEq_int, gEq_str, gEq_bl, atI_nat', atI_0, atI_1, atI_2, atI_3, atI_4, atI_5, gIx_tup, gIx_lst, gIx_scr, gIx_ob, obL_lst, obL_fz, gLen_tup, gLen_lst, gLen_scr, gLen_ob, gToInt_int, gToInt_bl, gToStr_int, truD_bl, gMin2_int, gMax2_int, isLst_ob, isLst_lst, obO_lst, oLst_ob, appO_some, gApp_ap, gSetL_ap, okE_some, setL_ob, ixN_0, ixN_1, sizeLine_val, rngL_length, List.set_cons_zero, List.set_cons_succ, List.getElem?_cons_zero, List.getElem?_cons_succ, Option.join_some, Option.map_some, Option.bind_some, List.length_cons, List.length_nil, Option.isSome_some, if_true, if_false, Bool.false_eq_true, Bool.false_xor, Bool.true_xor, and_self, Nat.reduceAdd, Nat.reduceLeDiff, reduceIte, List.append_nil, Bool.not_true, Bool.not_false, bYes_ap, gIsN_ap, isNoneD_int, isNoneD_none, Bool.not_not, set_app hl]
          refine WE_mono (fin "any" (.inl rfl)) (fun d S1 ⟨b5, e, ed, hb5, he, es⟩ => ?_) (fun _ _ z => z)
          subst ed es
          simp -implicitDefEqProofs only [WE_ok, WE_bind, WE_ite, WE_no, WS_nx, WS_rt, WS_bk, WS_ct, WS_lift, WS_seq, WS_ite, oRs_some, eVar_ap, eC_ap, eBin_ap, isB_bl, asB_ap, bAnd_ap, bOr_ap, bNot_ap, bTru_ap, eAnd_wp, eOr_wp, eNot_wp, andR_bl, orR_bl, notR_bl, decide_eq_true_eq, gAny_lst, gAll_lst, gSum_lst, chkOf_p, lItems_lst, eNeg_ap, eIf_ap, aNil_ap, aCons_ap, eTup_ap, eLst_ap, eLstO_ap, eB_ap, eCall_ap, eMth_ap, eIsi_ap, eSl_ap, oNone_ap, oSome_ap, eLc_ap, sSeq_ap, sNil_ap, sBrk_ap, sCnt_ap, sExpr_ap, rtO_some, sRetR_ap, sRetN_ap, sIf_ap, sSet_ap, nxG_ok, sAsg_ap, sAug_ap, gNm_ap, sFor_ap, iRgA_ap, iRgB_ap, iTpl_ap, iLst_ap, restD_p', restAll_nil, restAll_cons, gAdd_int, gAdd_str, gAdd_tup, gAdd_lst, gAddI_int, gSub_int, gMul_int, gMod_int, gFdv_int, gPow_int, gLt_int, gLe_int, gGt_int, gGe_int, gEq_int, gEq_str, gEq_bl, atI_nat', atI_0, atI_1, atI_2, atI_3, atI_4, atI_5, gIx_tup, gIx_lst, gIx_scr, gIx_ob, obL_lst, obL_fz, gLen_tup, gLen_lst, gLen_scr, gLen_ob, gToInt_int, gToInt_bl, gToStr_int, truD_bl, gMin2_int, gMax2_int, isLst_ob, isLst_lst, obO_lst, oLst_ob, appO_some, gApp_ap, gSetL_ap, okE_some, setL_ob, ixN_0, ixN_1, sizeLine_val, rngL_length, List.set_cons_zero, List.set_cons_succ, List.getElem?_cons_zero, List.getElem?_cons_succ, Option.join_some, Option.map_some, Option.bind_some, List.length_cons, List.length_nil, Option.isSome_some, if_true, if_false, Bool.false_eq_true, Bool.false_xor, Bool.true_xor, and_self, Nat.reduceAdd, Nat.reduceLeDiff, reduceIte, List.append_nil, Bool.not_true, Bool.not_false, bYes_ap, gIsN_ap, isNoneD_int, isNoneD_none, Bool.not_not]
          exact ⟨b5, "any", e, .inl rfl, hb5, he, by trivial, by trivial⟩
      rintro ρ S3 ⟨b4, k, e, hk, hb4, he, rfl, rfl⟩
      refine WS_cut (fun ρ S1 => ∃ b' e, IsBox b' ∧ Ex.ok Ps.length 3 e ∧ S1 = S.set n b' ++ [pyL Ps] ∧ ρ = [some (.ob n), some (.int wide), some (.int strips), some (.ob S.length), some (.int (i : Int)), some (.str (dirS ac)), some (.p e.py)]) ?_ ?_
      · simp -implicitDefEqProofs only [WE_ok, WE_bind, WE_ite, WE_no, WS_nx, WS_rt, WS_bk, WS_ct, WS_lift, WS_seq, WS_ite, oRs_some, eVar_ap, eC_ap, eBin_ap, isB_bl, asB_ap, bAnd_ap, bOr_ap, bNot_ap, bTru_ap, eAnd_wp, eOr_wp, eNot_wp, andR_bl, orR_bl, notR_bl, decide_eq_true_eq, gAny_lst, gAll_lst, gSum_lst, chkOf_p, lItems_lst, eNeg_ap, eIf_ap, aNil_ap, aCons_ap, eTup_ap, eLst_ap, eLstO_ap, eB_ap, eCall_ap, eMth_ap, eIsi_ap, eSl_ap, oNone_ap, oSome_ap, eLc_ap, sSeq_ap, sNil_ap, sBrk_ap, sCnt_ap, sExpr_ap, rtO_some, sRetR_ap, sRetN_ap, sIf_ap, sSet_ap, nxG_ok, sAsg_ap, sAug_ap, gNm_ap, sFor_ap, iRgA_ap, iRgB_ap, iTpl_ap, iLst_ap, restD_p', restAll_nil, restAll_cons, gAdd_int, gAdd_str, gAdd_tup, gAdd_lst, gAddI_int, gSub_int, gMul_int, gMod_int, gFdv_int, gPow_int, gLt_int, gLe_int, gGt_int, gGe_int, gEq_int, gEq_str, gEq_bl, atI_nat', atI_0, atI_1, atI_2, atI_3, atI_4, atI_5, gIx_tup, gIx_lst, gIx_scr, gIx_ob, obL_lst, obL_fz, gLen_tup, gLen_lst, gLen_scr, gLen_ob, gToInt_int, gToInt_bl, gToStr_int, truD_bl, gMin2_int, gMax2_int, isLst_ob, isLst_lst, obO_lst, oLst_ob, appO_some, gApp_ap, gSetL_ap, okE_some, setL_ob, ixN_0, ixN_1, sizeLine_val, rngL_length, List.set_cons_zero, List.set_cons_succ, List.getElem?_cons_zero, List.getElem?_cons_succ, Option.join_some, Option.map_some, Option.bind_some, List.length_cons, List.length_nil, Option.isSome_some, if_true, if_false, Bool.false_eq_true, Bool.false_xor, Bool.true_xor, and_self, Nat.reduceAdd, Nat.reduceLeDiff, reduceIte, List.append_nil, Bool.not_true, Bool.not_false, bYes_ap, gIsN_ap, isNoneD_int, isNoneD_none, Bool.not_not]
        refine draw_wp (get_set hl) hb4 (by decide) (cl hb4) fun v b5 h0 h1 hb5 => ?_
        by_cases hv : v = 0
        · subst hv
          simp -implicitDefEqProofs only [WE_ok, WE_bind, WE_ite, WE_no, WS_nx, WS_rt, WS_bk, WS_ct, WS_lift, WS_seq, WS_ite, oRs_some, eVar_ap, eC_ap, eBin_ap, isB_bl, asB_ap, bAnd_ap, bOr_ap, bNot_ap, bTru_ap, eAnd_wp, eOr_wp, eNot_wp, andR_bl, orR_bl, notR_bl, decide_eq_true_eq, gAny_lst, gAll_lst, gSum_lst, chkOf_p, lItems_lst, eNeg_ap, eIf_ap, aNil_ap, aCons_ap, eTup_ap, eLst_ap, eLstO_ap, eB_ap, eCall_ap, eMth_ap, eIsi_ap, eSl_ap, oNone_ap, oSome_ap, eLc_ap, sSeq_ap, sNil_ap, sBrk_ap, sCnt_ap, sExpr_ap, rtO_some, sRetR_ap, sRetN_ap, sIf_ap, sSet_ap, nxG_ok, sAsg_ap, sAug_ap, gNm_ap, sFor_ap, iRgA_ap, iRgB_ap, iTpl_ap, iLst_ap, restD_p', restAll_nil, restAll_cons, gAdd_int, gAdd_str, gAdd_tup, gAdd_lst, gAddI_int, gSub_int, gMul_int, gMod_int, gFdv_int, gPow_int, gLt_int, gLe_int, gGt_int, gGe_int, gEq_int, gEq_str, gEq_bl, atI_nat', atI_0, atI_1, atI_2, atI_3, atI_4, atI_5, gIx_tup, gIx_lst, gIx_scr, gIx_ob, obL_lst, obL_fz, gLen_tup, gLen_lst, gLen_scr, gLen_ob, gToInt_int, gToInt_bl, gToStr_int, truD_bl, gMin2_int, gMax2_int, isLst_ob, isLst_lst, obO_lst, oLst_ob, appO_some, gApp_ap, gSetL_ap, okE_some, setL_ob, ixN_0, ixN_1, sizeLine_val, rngL_length, List.set_cons_zero, List.set_cons_succ, List.getElem?_cons_zero, List.getElem?_cons_succ, Option.join_some, Option.map_some, Option.bind_some, List.length_cons, List.length_nil, Option.isSome_some, if_true, if_false, Bool.false_eq_true, Bool.false_xor, Bool.true_xor, and_self, Nat.reduceAdd, Nat.reduceLeDiff, reduceIte, List.append_nil, Bool.not_true, Bool.not_false, bYes_ap, gIsN_ap, isNoneD_int, isNoneD_none, Bool.not_not, set_app hl, beq_self_eq_true]
          exact ⟨b5, e, hb5, he.up, by trivial, by trivial⟩
        · have hv0 : (v == 0) = false := beq_eq_false_iff_ne.mpr hv
          simp -implicitDefEqProofs only [WE_ok, WE_bind, WE_ite, WE_no, WS_nx, WS_rt, WS_bk, WS_ct, WS_lift, WS_seq, WS_ite, oRs_some, eVar_ap, eC_ap, eBin_ap, isB_bl, asB_ap, bAnd_ap, bOr_ap, bNot_ap, bTru_ap, eAnd_wp, eOr_wp, eNot_wp, andR_bl, orR_bl, notR_bl, decide_eq_true_eq, gAny_lst, gAll_lst, gSum_lst, chkOf_p, lItems_lst, eNeg_ap, eIf_ap, aNil_ap, aCons_ap, eTup_ap, eLst_ap, eLstO_ap, eB_ap, eCall_ap, eMth_ap, eIsi_ap, eSl_ap, oNone_ap, oSome_ap, eLc_ap, sSeq_ap, sNil_ap, sBrk_ap, sCnt_ap, sExpr_ap, rtO_some, sRetR_ap, sRetN_ap, sIf_ap, sSet_ap, nxG_ok, sAsg_ap, sAug_ap, gNm_ap, sFor_ap, iRgA_ap, iRgB_ap, iTpl_ap, iLst_ap, restD_p', restAll_nil, restAll_cons, gAdd_int, gAdd_str, gAdd_tup, gAdd_lst, gAddI_int, gSub_int, gMul_int, gMod_int, gFdv_int, gPow_int, gLt_int, gLe_int, gGt_int, gGe_int, gEq_int, gEq_str, gEq_bl, atI_nat', atI_0, atI_1, atI_2, atI_3, atI_4, atI_5, gIx_tup, gIx_lst, gIx_scr, gIx_ob, obL_lst, obL_fz, gLen_tup, gLen_lst, gLen_scr, gLen_ob, gToInt_int, gToInt_bl, gToStr_int, truD_bl, gMin2_int, gMax2_int, isLst_ob, isLst_lst, obO_lst, oLst_ob, appO_some, gApp_ap, gSetL_ap, okE_some, setL_ob, ixN_0, ixN_1, sizeLine_val, rngL_length, List.set_cons_zero, List.set_cons_succ, List.getElem?_cons_zero, List.getElem?_cons_succ, Option.join_some, Option.map_some, Option.bind_some, List.length_cons, List.length_nil, Option.isSome_some, if_true, if_false, Bool.false_eq_true, Bool.false_xor, Bool.true_xor, and_self, Nat.reduceAdd, Nat.reduceLeDiff, reduceIte, List.append_nil, Bool.not_true, Bool.not_false, bYes_ap, gIsN_ap, isNoneD_int, isNoneD_none, Bool.not_not, set_app hl, hv0]
          rcases hk with rfl | rfl
          · exact ⟨b5, .an e, hb5, he, by trivial, by trivial⟩
          · exact ⟨b5, .so e, hb5, he, by trivial, by trivial⟩
      rintro ρ S3 ⟨b5, e2, hb5, he2, rfl, rfl⟩
      have hL : Ps.length < 16777216 := by omega
      simp -implicitDefEqProofs only [WE_ok, WE_bind, WE_ite, WE_no, WS_nx, WS_rt, WS_bk, WS_ct, WS_lift, WS_seq, WS_ite, oRs_some, eVar_ap, eC_ap, eBin_ap, isB_bl, asB_ap, bAnd_ap, bOr_ap, bNot_ap, bTru_ap, eAnd_wp, eOr_wp, eNot_wp, andR_bl, orR_bl, notR_bl, decide_eq_true_eq, gAny_lst, gAll_lst, gSum_lst, chkOf_p, lItems_lst, eNeg_ap, eIf_ap, aNil_ap, aCons_ap, eTup_ap, eLst_ap, eLstO_ap, eB_ap, eCall_ap, eMth_ap, eIsi_ap, eSl_ap, oNone_ap, oSome_ap, eLc_ap, sSeq_ap, sNil_ap, sBrk_ap, sCnt_ap, sExpr_ap, rtO_some, sRetR_ap, sRetN_ap, sIf_ap, sSet_ap, nxG_ok, sAsg_ap, sAug_ap, gNm_ap, sFor_ap, iRgA_ap, iRgB_ap, iTpl_ap, iLst_ap, restD_p', restAll_nil, restAll_cons, gAdd_int, gAdd_str, gAdd_tup, gAdd_lst, gAddI_int, gSub_int, gMul_int, gMod_int, gFdv_int, gPow_int, gLt_int, gLe_int, gGt_int, gGe_int, gEq_int, gEq_str, gEq_bl, atI_nat', atI_0, atI_1, atI_2, atI_3, atI_4, atI_5, gIx_tup, gIx_lst, gIx_scr, gIx_ob, obL_lst, obL_fz, gLen_tup, gLen_lst, gLen_scr, gLen_ob, gToInt_int, gToInt_bl, gToStr_int, truD_bl, gMin2_int, gMax2_int, isLst_ob, isLst_lst, obO_lst, oLst_ob, appO_some, gApp_ap, gSetL_ap, okE_some, setL_ob, ixN_0, ixN_1, sizeLine_val, rngL_length, List.set_cons_zero, List.set_cons_succ, List.getElem?_cons_zero, List.getElem?_cons_succ, Option.join_some, Option.map_some, Option.bind_some, List.length_cons, List.length_nil, Option.isSome_some, if_true, if_false, Bool.false_eq_true, Bool.false_xor, Bool.true_xor, and_self, Nat.reduceAdd, Nat.reduceLeDiff, reduceIte, List.append_nil, Bool.not_true, Bool.not_false, bYes_ap, gIsN_ap, isNoneD_int, isNoneD_none, Bool.not_not, lastn, hlog]
      rw [if_pos (by rw [p1]; omega)]
      refine draw_wp (get_set hl) hb5 (by decide) (cl hb5) fun v b6 h0 h1 hb6 => ?_
      have h2 : v = 0 ∨ v = 1 ∨ v = 2 := by omega
      have fin : ∀ j : Str, O.lst ((Ps.map fun p => D.p p.py) ++ [D.p (.tuple [.str (dirS ac), .str (Str.ofString "s" ++ Str.ofString (toString (i : Int))), .str j, e2.py])]) = pyL (Ps ++ [.strip ac (Str.ofString "s" ++ Str.ofString (toString (i : Int))) j e2]) := fun j => pyL_snoc (t := .strip ac (Str.ofString "s" ++ Str.ofString (toString (i : Int))) j e2)
      have fin2 : ∀ j : Str, PsOk wide (0 + i + 1) (Ps ++ [.strip ac (Str.ofString "s" ++ Str.ofString (toString (i : Int))) j e2]) := fun j => hps.snoc ⟨ac, _, j, e2, rfl, he2⟩
      rcases h2 with rfl | rfl | rfl
      · simp -implicitDefEqProofs only [WE_ok, WE_bind, WE_ite, WE_no, WS_nx, WS_rt, WS_bk, WS_ct, WS_lift, WS_seq, WS_ite, oRs_some, eVar_ap, eC_ap, eBin_ap, isB_bl, asB_ap, bAnd_ap, bOr_ap, bNot_ap, bTru_ap, eAnd_wp, eOr_wp, eNot_wp, andR_bl, orR_bl, notR_bl, decide_eq_true_eq, gAny_lst, gAll_lst, gSum_lst, chkOf_p, lItems_lst, eNeg_ap, eIf_ap, aNil_ap, aCons_ap, eTup_ap, eLst_ap, eLstO_ap, eB_ap, eCall_ap, eMth_ap, eIsi_ap, eSl_ap, oNone_ap, oSome_ap, eLc_ap, sSeq_ap, sNil_ap, sBrk_ap, sCnt_ap, sExpr_ap, rtO_some, sRetR_ap, sRetN_ap, sIf_ap, sSet_ap, nxG_ok, sAsg_ap, sAug_ap, gNm_ap, sFor_ap, iRgA_ap, iRgB_ap, iTpl_ap, iLst_ap, restD_p', restAll_nil, restAll_cons, gAdd_int, gAdd_str, gAdd_tup, gAdd_lst, gAddI_int, gSub_int, gMul_int, gMod_int, gFdv_int, gPow_int, gLt_int, gLe_int, gGt_int, gGe_int, gEq_int, gEq_str, gEq_bl, atI_nat', atI_0, atI_1, atI_2, atI_3, atI_4, atI_5, gIx_tup, gIx_lst, gIx_scr, gIx_ob, obL_lst, obL_fz, gLen_tup, gLen_lst, gLen_scr, gLen_ob, gToInt_int, gToInt_bl, gToStr_int, truD_bl, gMin2_int, gMax2_int, isLst_ob, isLst_lst, obO_lst, oLst_ob, appO_some, gApp_ap, gSetL_ap, okE_some, setL_ob, ixN_0, ixN_1, sizeLine_val, rngL_length, List.set_cons_zero, List.set_cons_succ, List.getElem?_cons_zero, List.getElem?_cons_succ, Option.join_some, Option.map_some, Option.bind_some, List.length_cons, List.length_nil, Option.isSome_some, if_true, if_false, Bool.false_eq_true, Bool.false_xor, Bool.true_xor, and_self, Nat.reduceAdd, Nat.reduceLeDiff, reduceIte, List.append_nil, Bool.not_true, Bool.not_false, bYes_ap, gIsN_ap, isNoneD_int, isNoneD_none, Bool.not_not, set_app hl, lastn, List.length_map, hL, lasts, fin]
        exact ⟨by trivial, b6, _, _, _, _, hb6, fin2 _, by trivial, by trivial⟩
      · simp -implicitDefEqProofs only [WE_ok, WE_bind, WE_ite, WE_no, WS_nx, WS_rt, WS_bk, WS_ct, WS_lift, WS_seq, WS_ite, oRs_some, eVar_ap, eC_ap, eBin_ap, isB_bl, asB_ap, bAnd_ap, bOr_ap, bNot_ap, bTru_ap, eAnd_wp, eOr_wp, eNot_wp, andR_bl, orR_bl, notR_bl, decide_eq_true_eq, gAny_lst, gAll_lst, gSum_lst, chkOf_p, lItems_lst, eNeg_ap, eIf_ap, aNil_ap, aCons_ap, eTup_ap, eLst_ap, eLstO_ap, eB_ap, eCall_ap, eMth_ap, eIsi_ap, eSl_ap, oNone_ap, oSome_ap, eLc_ap, sSeq_ap, sNil_ap, sBrk_ap, sCnt_ap, sExpr_ap, rtO_some, sRetR_ap, sRetN_ap, sIf_ap, sSet_ap, nxG_ok, sAsg_ap, sAug_ap, gNm_ap, sFor_ap, iRgA_ap, iRgB_ap, iTpl_ap, iLst_ap, restD_p', restAll_nil, restAll_cons, gAdd_int, gAdd_str, gAdd_tup, gAdd_lst, gAddI_int, gSub_int, gMul_int, gMod_int, gFdv_int, gPow_int, gLt_int, gLe_int, gGt_int, gGe_int, gEq_int, gEq_str, gEq_bl, atI_nat', atI_0, atI_1, atI_2, atI_3, atI_4, atI_5, gIx_tup, gIx_lst, gIx_scr, gIx_ob, obL_lst, obL_fz, gLen_tup, gLen_lst, gLen_scr, gLen_ob, gToInt_int, gToInt_bl, gToStr_int, truD_bl, gMin2_int, gMax2_int, isLst_ob, isLst_lst, obO_lst, oLst_ob, appO_some, gApp_ap, gSetL_ap, okE_some, setL_ob, ixN_0, ixN_1, sizeLine_val, rngL_length, List.set_cons_zero, List.set_cons_succ, List.getElem?_cons_zero, List.getElem?_cons_succ, Option.join_some, Option.map_some, Option.bind_some, List.length_cons, List.length_nil, Option.isSome_some, if_true, if_false, Bool.false_eq_true, Bool.false_xor, Bool.true_xor, and_self, Nat.reduceAdd, Nat.reduceLeDiff, reduceIte, List.append_nil, Bool.not_true, Bool.not_false, bYes_ap, gIsN_ap, isNoneD_int, isNoneD_none, Bool.not_not, set_app hl, lastn, List.length_map, hL, lasts, fin]
        exact ⟨by trivial, b6, _, _, _, _, hb6, fin2 _, by trivial, by trivial⟩
      · simp -implicitDefEqProofs only [WE_ok, WE_bind, WE_ite, WE_no, WS_nx, WS_rt, WS_bk, WS_ct, WS_lift, WS_seq, WS_ite, oRs_some, eVar_ap, eC_ap, eBin_ap, isB_bl, asB_ap, bAnd_ap, bOr_ap, bNot_ap, bTru_ap, eAnd_wp, eOr_wp, eNot_wp, andR_bl, orR_bl, notR_bl, decide_eq_true_eq, gAny_lst, gAll_lst, gSum_lst, chkOf_p, lItems_lst, eNeg_ap, eIf_ap, aNil_ap, aCons_ap, eTup_ap, eLst_ap, eLstO_ap, eB_ap, eCall_ap, eMth_ap, eIsi_ap, eSl_ap, oNone_ap, oSome_ap, eLc_ap, sSeq_ap, sNil_ap, sBrk_ap, sCnt_ap, sExpr_ap, rtO_some, sRetR_ap, sRetN_ap, sIf_ap, sSet_ap, nxG_ok, sAsg_ap, sAug_ap, gNm_ap, sFor_ap, iRgA_ap, iRgB_ap, iTpl_ap, iLst_ap, restD_p', restAll_nil, restAll_cons, gAdd_int, gAdd_str, gAdd_tup, gAdd_lst, gAddI_int, gSub_int, gMul_int, gMod_int, gFdv_int, gPow_int, gLt_int, gLe_int, gGt_int, gGe_int, gEq_int, gEq_str, gEq_bl, atI_nat', atI_0, atI_1, atI_2, atI_3, atI_4, atI_5, gIx_tup, gIx_lst, gIx_scr, gIx_ob, obL_lst, obL_fz, gLen_tup, gLen_lst, gLen_scr, gLen_ob, gToInt_int, gToInt_bl, gToStr_int, truD_bl, gMin2_int, gMax2_int, isLst_ob, isLst_lst, obO_lst, oLst_ob, appO_some, gApp_ap, gSetL_ap, okE_some, setL_ob, ixN_0, ixN_1, sizeLine_val, rngL_length, List.set_cons_zero, List.set_cons_succ, List.getElem?_cons_zero, List.getElem?_cons_succ, Option.join_some, Option.map_some, Option.bind_some, List.length_cons, List.length_nil, Option.isSome_some, if_true, if_false, Bool.false_eq_true, Bool.false_xor, Bool.true_xor, and_self, Nat.reduceAdd, Nat.reduceLeDiff, reduceIte, List.append_nil, Bool.not_true, Bool.not_false, bYes_ap, gIsN_ap, isNoneD_int, isNoneD_none, Bool.not_not, set_app hl, lastn, List.length_map, hL, lasts, fin]
        exact ⟨by trivial, b6, _, _, _, _, hb6, fin2 _, by trivial, by trivial⟩
    · rintro ρ S2 ⟨b2, Ps, v4, v5, v6, hb2, hps, rfl, rfl⟩
      rw [rngL_length, Nat.zero_add] at hps
      exact ⟨b2, Ps, v4, v5, v6, hb2, hps, rfl, rfl⟩
  rintro ρ S1 ⟨b2, Ps, v4, v5, v6, hb2, hps, rfl, rfl⟩
  have vl : vList (S.set n b2 ++ [pyL Ps]) (.ob S.length) = some (Ps.map Pt.py) := by
    show (match (S.set n b2 ++ [pyL Ps])[S.length]? with | some (.lst l) => pAll l | some (.fz l) => some l | _ => none) = _
    rw [lastn]
    show pAll (Ps.map fun p => D.p p.py) = _
    rw [show (Ps.map fun p => D.p p.py) = (Ps.map Pt.py).map .p by simp]
    exact pAll_map _
  have gt : gToTup [.ob S.length] (S.set n b2 ++ [pyL Ps]) = .ok (.p (.tuple (Ps.map Pt.py))) (S.set n b2 ++ [pyL Ps]) := by
    unfold gToTup
    simp only [vl]
  simp -implicitDefEqProofs only [WE_ok, WE_bind, WE_ite, WE_no, WS_nx, WS_rt, WS_bk, WS_ct, WS_lift, WS_seq, WS_ite, oRs_some, eVar_ap, eC_ap, eBin_ap, isB_bl, asB_ap, bAnd_ap, bOr_ap, bNot_ap, bTru_ap, eAnd_wp, eOr_wp, eNot_wp, andR_bl, orR_bl, notR_bl, decide_eq_true_eq, gAny_lst, gAll_lst, gSum_lst, chkOf_p, lItems_lst, eNeg_ap, eIf_ap, aNil_ap, aCons_ap, eTup_ap, eLst_ap, eLstO_ap, eB_ap, eCall_ap, eMth_ap, eIsi_ap, eSl_ap, oNone_ap, oSome_ap, eLc_ap, sSeq_ap, sNil_ap, sBrk_ap, sCnt_ap, sExpr_ap, rtO_some, sRetR_ap, sRetN_ap, sIf_ap, sSet_ap, nxG_ok, sAsg_ap, sAug_ap, gNm_ap, sFor_ap, iRgA_ap, iRgB_ap, iTpl_ap, iLst_ap, restD_p', restAll_nil, restAll_cons, gAdd_int, gAdd_str, gAdd_tup, gAdd_lst, gAddI_int, gSub_int, gMul_int, gMod_int, gFdv_int, gPow_int, gLt_int, gLe_int, gGt_int, gGe_int, gEq_int, gEq_str, gEq_bl, atI_nat', atI_0, atI_1, atI_2, atI_3, atI_4, atI_5, gIx_tup, gIx_lst, gIx_scr, gIx_ob, obL_lst, obL_fz, gLen_tup, gLen_lst, gLen_scr, gLen_ob, gToInt_int, gToInt_bl, gToStr_int, truD_bl, gMin2_int, gMax2_int, isLst_ob, isLst_lst, obO_lst, oLst_ob, appO_some, gApp_ap, gSetL_ap, okE_some, setL_ob, ixN_0, ixN_1, sizeLine_val, rngL_length, List.set_cons_zero, List.set_cons_succ, List.getElem?_cons_zero, List.getElem?_cons_succ, Option.join_some, Option.map_some, Option.bind_some, List.length_cons, List.length_nil, Option.isSome_some, if_true, if_false, Bool.false_eq_true, Bool.false_xor, Bool.true_xor, and_self, Nat.reduceAdd, Nat.reduceLeDiff, reduceIte, List.append_nil, Bool.not_true, Bool.not_false, bYes_ap, gIsN_ap, isNoneD_int, isNoneD_none, Bool.not_not, gt]
  exact ⟨b2, Ps, _, hb2, hps, by trivial, by trivial⟩
end
end My

namespace My
open PySem PySem.Spec PyProof.Rows L2 DL
/-! ### regions -/
structure Rg where
  p : Nat
  x : Nat
  y : Nat
  w : Nat
  h : Nat
deriving DecidableEq
def Rg.py (r : Rg) : PyData := .tuple [.int r.p, .int r.x, .int r.y, .int r.w, .int r.h]
theorem Rg.eqv (a b : Rg) : PyData.eqv a.py b.py = decide (a = b) := by
  obtain ⟨p, x, y, w, h⟩ := a
  obtain ⟨p', x', y', w', h'⟩ := b
  have e : PyData.eqv (Rg.py ⟨p, x, y, w, h⟩) (Rg.py ⟨p', x', y', w', h'⟩) = (((p : Int) == p') && (((x : Int) == x') && (((y : Int) == y') && (((w : Int) == w') && (((h : Int) == h') && true))))) := by simp only [Rg.py, PyData.eqv, PyData.eqvAll]
  rw [e, Bool.eq_iff_iff]
  simp only [Bool.and_eq_true, beq_iff_eq, decide_eq_true_eq, Rg.mk.injEq, and_true]
  omega
theorem Rg.shaped (a : Rg) : SeqAt.shaped a.py = true := by
  show (PyData.canLay0 a.py && decide (PyData.depth a.py ≤ 64)) = true
  simp [Rg.py, PyData.canLay0, PyData.canLayAll0, PyData.depth, PyData.depthAll]
theorem Rg.lays : ∀ l : List Rg, PyData.canLayAll0 (l.map Rg.py) = true ∧ PyData.depthAll (l.map Rg.py) ≤ 1
  | [] => by simp [PyData.canLayAll0, PyData.depthAll]
  | a :: l => by
    have ih := Rg.lays l
    have h := Rg.shaped a
    have h1 : PyData.canLay0 a.py = true := SeqAt.canLay_of_shaped h
    have h2 : PyData.depth a.py ≤ 1 := by simp [Rg.py, PyData.depth, PyData.depthAll]
    simp only [List.map_cons, PyData.canLayAll0, PyData.depthAll, h1, ih.1, Bool.and_self, true_and]
    omega
theorem Rg.shapedT (l : List Rg) : SeqAt.shaped (.tuple (l.map Rg.py)) = true := by
  have ih := Rg.lays l
  show (PyData.canLay0 (.tuple (l.map Rg.py)) && decide (PyData.depth (.tuple (l.map Rg.py)) ≤ 64)) = true
  rw [Bool.and_eq_true]
  have h2 := ih.2
  refine ⟨by simp only [PyData.canLay0]; exact ih.1, decide_eq_true ?_⟩
  simp only [PyData.depth]
  omega
theorem Rg.shapedL (l : List Rg) : SeqAt.shaped (.list (l.map Rg.py)) = true := by
  have ih := Rg.lays l
  show (PyData.canLay0 (.list (l.map Rg.py)) && decide (PyData.depth (.list (l.map Rg.py)) ≤ 64)) = true
  rw [Bool.and_eq_true]
  have h2 := ih.2
  refine ⟨by simp only [PyData.canLay0]; exact ih.1, decide_eq_true ?_⟩
  simp only [PyData.depth]
  omega
theorem Rg.any (r : Rg) (l : List Rg) : ((l.map Rg.py).any fun z => PyData.eqv z r.py) = decide (r ∈ l) := by
  rw [List.any_map, Bool.eq_iff_iff]
  simp only [List.any_eq_true, Function.comp_apply, Rg.eqv, decide_eq_true_eq]
  constructor
  · rintro ⟨a, h, rfl⟩; exact h
  · intro h; exact ⟨r, h, rfl⟩
theorem gEq_rg {neg : Bool} {a b : Rg} {S : Sto} : gEq neg (.p a.py) (.p b.py) S = .ok (.bl (neg ^^ decide (a = b))) S := by
  have e : gEq neg (.p a.py) (.p b.py) S = if SeqAt.shaped a.py = true ∧ SeqAt.shaped b.py = true then .ok (.bl (neg ^^ PyData.eqv a.py b.py)) S else .st := rfl
  rw [e, if_pos ⟨a.shaped, b.shaped⟩, Rg.eqv]
theorem gInT_rg {neg : Bool} {a : Rg} {l : List Rg} {S : Sto} : gInT neg (.p a.py) (.p (.tuple (l.map Rg.py))) S = .ok (.bl (neg ^^ decide (a ∈ l))) S := by
  rw [gInT_tup a.shaped (Rg.shapedT l), Rg.any]
abbrev rgL (l : List Rg) : O := .lst (l.map fun r => D.p r.py)
theorem rgL_eq (l : List Rg) : rgL l = .lst ((l.map Rg.py).map .p) := by simp [rgL]
theorem rgL_cl {k : Nat} {l : List Rg} : ClO k (rgL l) := by rw [rgL_eq]; exact clO_p
theorem vList_rg {S : Sto} {n : Nat} {l : List Rg} (h : S[n]? = some (rgL l)) : vList S (.ob n) = some (l.map Rg.py) := by
  show (match S[n]? with | some (.lst l) => pAll l | some (.fz l) => some l | _ => none) = _
  rw [h, rgL_eq]
  exact pAll_map _
theorem gInT_rgL {neg : Bool} {a : Rg} {l : List Rg} {S : Sto} {n : Nat} (h : S[n]? = some (rgL l)) : gInT neg (.p a.py) (.ob n) S = .ok (.bl (neg ^^ decide (a ∈ l))) S := by
  have e : gInT neg (.p a.py) (.ob n) S = (match pNow S (.p a.py), seqP S (.ob n) with
    | some p, some l => if flatD p = true ∧ l.all flatD = true then .ok (.bl (neg ^^ l.any fun z => PyData.eqv z p)) S
        else if (vList S (.ob n)).isSome = true ∧ SeqAt.shaped p = true ∧ SeqAt.shaped (.list l) = true then .ok (.bl (neg ^^ l.any fun z => PyData.eqv z p)) S else .st
    | _, _ => .st) := rfl
  have e2 : seqP S (.ob n) = some (l.map Rg.py) := vList_rg h
  rw [e, e2]
  have e3 : pNow S (.p a.py) = some a.py := rfl
  have e4 : flatD a.py = false := rfl
  simp only [e3, e4, vList_rg h, a.shaped, Rg.shapedL l, Option.isSome_some, and_self, if_true, Bool.false_eq_true, false_and, if_false, Rg.any]
def Pt.isStrip : Pt → Bool
  | .strip _ _ _ _ => true
  | _ => false
theorem sh2 : SeqAt.shaped (.tuple [.str "across", .str "down"]) = true := by decide +kernel
theorem t1 : ([PyData.str "across", PyData.str "down"].any fun z => PyData.eqv z (.str "plain")) = false := by decide +kernel
theorem t2 : ([PyData.str "across", PyData.str "down"].any fun z => PyData.eqv z (.str "shape")) = false := by decide +kernel
theorem t3 (ac : Bool) : ([PyData.str "across", PyData.str "down"].any fun z => PyData.eqv z (.str (dirS ac))) = true := by cases ac <;> decide +kernel
theorem t4 : SeqAt.shaped (.str "plain") = true := by decide +kernel
theorem t5 : SeqAt.shaped (.str "shape") = true := by decide +kernel
theorem t6 (ac : Bool) : SeqAt.shaped (.str (dirS ac)) = true := by cases ac <;> decide +kernel
theorem u1 : (Str.ofString "plain" == Str.ofString "across") = false := by decide +kernel
theorem u2 : (Str.ofString "plain" == Str.ofString "down") = false := by decide +kernel
theorem u3 : (Str.ofString "shape" == Str.ofString "across") = false := by decide +kernel
theorem u4 : (Str.ofString "shape" == Str.ofString "down") = false := by decide +kernel
theorem u5 : (Str.ofString "across" == Str.ofString "down") = false := by decide +kernel
section
variable {S : Sto} {n : Nat} {b : O} {Q : D → Sto → Prop} {E : Xc → Sto → Prop}
theorem isstrip_wp {pt : Pt} (hc : ClS 0 S) (q : Q (.bl pt.isStrip) S) : WE (G_is_strip [.p pt.py] S) Q E := by
  refine WE_gB ?_
  rw [show start0 NN_is_strip [.p pt.py] = [some (.p pt.py)] from rfl]
  unfold B_is_strip
  cases pt with
  | plain nm lab c k =>
    simp -implicitDefEqProofs only [WE_ok, WE_bind, WE_ite, WE_no, WS_nx, WS_rt, WS_bk, WS_ct, WS_lift, WS_seq, WS_ite, oRs_some, eVar_ap, eC_ap, eBin_ap, isB_bl, asB_ap, bAnd_ap, bOr_ap, bNot_ap, bTru_ap, eAnd_wp, eOr_wp, eNot_wp, andR_bl, orR_bl, notR_bl, decide_eq_true_eq, gAny_lst, gAll_lst, gSum_lst, chkOf_p, lItems_lst, eNeg_ap, eIf_ap, aNil_ap, aCons_ap, eTup_ap, eLst_ap, eLstO_ap, eB_ap, eCall_ap, eMth_ap, eIsi_ap, eSl_ap, oNone_ap, oSome_ap, eLc_ap, sSeq_ap, sNil_ap, sBrk_ap, sCnt_ap, sExpr_ap, rtO_some, sRetR_ap, sRetN_ap, sIf_ap, sSet_ap, nxG_ok, sAsg_ap, sAug_ap, gNm_ap, sFor_ap, iRgA_ap, iRgB_ap, iTpl_ap, iLst_ap, restD_p', restAll_nil, restAll_cons, gAdd_int, gAdd_str, gAdd_tup, gAdd_lst, gAddI_int, gSub_int, gMul_int, gMod_int, gFdv_int, gPow_int, gLt_int, gLe_int, gGt_int, gGe_int, gEq_int, gEq_str, gEq_bl, atI_nat', atI_0, atI_1, atI_2, atI_3, atI_4, atI_5, gIx_tup, gIx_lst, gIx_scr, gIx_ob, obL_lst, obL_fz, gLen_tup, gLen_lst, gLen_scr, gLen_ob, gToInt_int, gToInt_bl, gToStr_int, truD_bl, gMin2_int, gMax2_int, isLst_ob, isLst_lst, obO_lst, oLst_ob, appO_some, gApp_ap, gSetL_ap, okE_some, setL_ob, ixN_0, ixN_1, sizeLine_val, rngL_length, List.set_cons_zero, List.set_cons_succ, List.getElem?_cons_zero, List.getElem?_cons_succ, Option.join_some, Option.map_some, Option.bind_some, List.length_cons, List.length_nil, Option.isSome_some, if_true, if_false, Bool.false_eq_true, Bool.false_xor, Bool.true_xor, and_self, Nat.reduceAdd, Nat.reduceLeDiff, reduceIte, List.append_nil, Bool.not_true, Bool.not_false, bYes_ap, gIsN_ap, isNoneD_int, isNoneD_none, Bool.not_not, Pt.py, gInT_tup t4 sh2, t1]
    exact WE_pick rfl hc q
  | shape nm lab c w h rows =>
    simp -implicitDefEqProofs only [WE_ok, WE_bind, WE_ite, WE_no, WS_nx, WS_rt, WS_bk, WS_ct, WS_lift, WS_seq, WS_ite, oRs_some, eVar_ap, eC_ap, eBin_ap, isB_bl, asB_ap, bAnd_ap, bOr_ap, bNot_ap, bTru_ap, eAnd_wp, eOr_wp, eNot_wp, andR_bl, orR_bl, notR_bl, decide_eq_true_eq, gAny_lst, gAll_lst, gSum_lst, chkOf_p, lItems_lst, eNeg_ap, eIf_ap, aNil_ap, aCons_ap, eTup_ap, eLst_ap, eLstO_ap, eB_ap, eCall_ap, eMth_ap, eIsi_ap, eSl_ap, oNone_ap, oSome_ap, eLc_ap, sSeq_ap, sNil_ap, sBrk_ap, sCnt_ap, sExpr_ap, rtO_some, sRetR_ap, sRetN_ap, sIf_ap, sSet_ap, nxG_ok, sAsg_ap, sAug_ap, gNm_ap, sFor_ap, iRgA_ap, iRgB_ap, iTpl_ap, iLst_ap, restD_p', restAll_nil, restAll_cons, gAdd_int, gAdd_str, gAdd_tup, gAdd_lst, gAddI_int, gSub_int, gMul_int, gMod_int, gFdv_int, gPow_int, gLt_int, gLe_int, gGt_int, gGe_int, gEq_int, gEq_str, gEq_bl, atI_nat', atI_0, atI_1, atI_2, atI_3, atI_4, atI_5, gIx_tup, gIx_lst, gIx_scr, gIx_ob, obL_lst, obL_fz, gLen_tup, gLen_lst, gLen_scr, gLen_ob, gToInt_int, gToInt_bl, gToStr_int, truD_bl, gMin2_int, gMax2_int, isLst_ob, isLst_lst, obO_lst, oLst_ob, appO_some, gApp_ap, gSetL_ap, okE_some, setL_ob, ixN_0, ixN_1, sizeLine_val, rngL_length, List.set_cons_zero, List.set_cons_succ, List.getElem?_cons_zero, List.getElem?_cons_succ, Option.join_some, Option.map_some, Option.bind_some, List.length_cons, List.length_nil, Option.isSome_some, if_true, if_false, Bool.false_eq_true, Bool.false_xor, Bool.true_xor, and_self, Nat.reduceAdd, Nat.reduceLeDiff, reduceIte, List.append_nil, Bool.not_true, Bool.not_false, bYes_ap, gIsN_ap, isNoneD_int, isNoneD_none, Bool.not_not, Pt.py, gInT_tup t5 sh2, t2]
    exact WE_pick rfl hc q
  | strip ac nm j e =>
    simp -implicitDefEqProofs only [WE_ok, WE_bind, WE_ite, WE_no, WS_nx, WS_rt, WS_bk, WS_ct, WS_lift, WS_seq, WS_ite, oRs_some, eVar_ap, eC_ap, eBin_ap, isB_bl, asB_ap, bAnd_ap, bOr_ap, bNot_ap, bTru_ap, eAnd_wp, eOr_wp, eNot_wp, andR_bl, orR_bl, notR_bl, decide_eq_true_eq, gAny_lst, gAll_lst, gSum_lst, chkOf_p, lItems_lst, eNeg_ap, eIf_ap, aNil_ap, aCons_ap, eTup_ap, eLst_ap, eLstO_ap, eB_ap, eCall_ap, eMth_ap, eIsi_ap, eSl_ap, oNone_ap, oSome_ap, eLc_ap, sSeq_ap, sNil_ap, sBrk_ap, sCnt_ap, sExpr_ap, rtO_some, sRetR_ap, sRetN_ap, sIf_ap, sSet_ap, nxG_ok, sAsg_ap, sAug_ap, gNm_ap, sFor_ap, iRgA_ap, iRgB_ap, iTpl_ap, iLst_ap, restD_p', restAll_nil, restAll_cons, gAdd_int, gAdd_str, gAdd_tup, gAdd_lst, gAddI_int, gSub_int, gMul_int, gMod_int, gFdv_int, gPow_int, gLt_int, gLe_int, gGt_int, gGe_int, gEq_int, gEq_str, gEq_bl, atI_nat', atI_0, atI_1, atI_2, atI_3, atI_4, atI_5, gIx_tup, gIx_lst, gIx_scr, gIx_ob, obL_lst, obL_fz, gLen_tup, gLen_lst, gLen_scr, gLen_ob, gToInt_int, gToInt_bl, gToStr_int, truD_bl, gMin2_int, gMax2_int, isLst_ob, isLst_lst, obO_lst, oLst_ob, appO_some, gApp_ap, gSetL_ap, okE_some, setL_ob, ixN_0, ixN_1, sizeLine_val, rngL_length, List.set_cons_zero, List.set_cons_succ, List.getElem?_cons_zero, List.getElem?_cons_succ, Option.join_some, Option.map_some, Option.bind_some, List.length_cons, List.length_nil, Option.isSome_some, if_true, if_false, Bool.false_eq_true, Bool.false_xor, Bool.true_xor, and_self, Nat.reduceAdd, Nat.reduceLeDiff, reduceIte, List.append_nil, Bool.not_true, Bool.not_false, bYes_ap, gIsN_ap, isNoneD_int, isNoneD_none, Bool.not_not, Pt.py, gInT_tup (t6 ac) sh2, t3]
    exact WE_pick rfl hc q
theorem lawstrip_wp {pt : Pt} (hc : ClS 0 S) (q : Q (.bl pt.isStrip) S) : WE (G_law_strip [.p pt.py] S) Q E := by
  refine WE_gB ?_
  rw [show start0 NN_law_strip [.p pt.py] = [some (.p pt.py)] from rfl]
  unfold B_law_strip
  cases pt with
  | plain nm lab c k =>
    simp -implicitDefEqProofs only [WE_ok, WE_bind, WE_ite, WE_no, WS_nx, WS_rt, WS_bk, WS_ct, WS_lift, WS_seq, WS_ite, oRs_some, eVar_ap, eC_ap, eBin_ap, isB_bl, asB_ap, bAnd_ap, bOr_ap, bNot_ap, bTru_ap, eAnd_wp, eOr_wp, eNot_wp, andR_bl, orR_bl, notR_bl, decide_eq_true_eq, gAny_lst, gAll_lst, gSum_lst, chkOf_p, lItems_lst, eNeg_ap, eIf_ap, aNil_ap, aCons_ap, eTup_ap, eLst_ap, eLstO_ap, eB_ap, eCall_ap, eMth_ap, eIsi_ap, eSl_ap, oNone_ap, oSome_ap, eLc_ap, sSeq_ap, sNil_ap, sBrk_ap, sCnt_ap, sExpr_ap, rtO_some, sRetR_ap, sRetN_ap, sIf_ap, sSet_ap, nxG_ok, sAsg_ap, sAug_ap, gNm_ap, sFor_ap, iRgA_ap, iRgB_ap, iTpl_ap, iLst_ap, restD_p', restAll_nil, restAll_cons, gAdd_int, gAdd_str, gAdd_tup, gAdd_lst, gAddI_int, gSub_int, gMul_int, gMod_int, gFdv_int, gPow_int, gLt_int, gLe_int, gGt_int, gGe_int, gEq_int, gEq_str, gEq_bl, atI_nat', atI_0, atI_1, atI_2, atI_3, atI_4, atI_5, gIx_tup, gIx_lst, gIx_scr, gIx_ob, obL_lst, obL_fz, gLen_tup, gLen_lst, gLen_scr, gLen_ob, gToInt_int, gToInt_bl, gToStr_int, truD_bl, gMin2_int, gMax2_int, isLst_ob, isLst_lst, obO_lst, oLst_ob, appO_some, gApp_ap, gSetL_ap, okE_some, setL_ob, ixN_0, ixN_1, sizeLine_val, rngL_length, List.set_cons_zero, List.set_cons_succ, List.getElem?_cons_zero, List.getElem?_cons_succ, Option.join_some, Option.map_some, Option.bind_some, List.length_cons, List.length_nil, Option.isSome_some, if_true, if_false, Bool.false_eq_true, Bool.false_xor, Bool.true_xor, and_self, Nat.reduceAdd, Nat.reduceLeDiff, reduceIte, List.append_nil, Bool.not_true, Bool.not_false, bYes_ap, gIsN_ap, isNoneD_int, isNoneD_none, Bool.not_not, Pt.py, u1, u2]
    exact WE_pick rfl hc q
  | shape nm lab c w h rows =>
    simp -implicitDefEqProofs only [WE_ok, WE_bind, WE_ite, WE_no, WS_nx, WS_rt, WS_bk, WS_ct, WS_lift, WS_seq, WS_ite, oRs_some, eVar_ap, eC_ap, eBin_ap, isB_bl, asB_ap, bAnd_ap, bOr_ap, bNot_ap, bTru_ap, eAnd_wp, eOr_wp, eNot_wp, andR_bl, orR_bl, notR_bl, decide_eq_true_eq, gAny_lst, gAll_lst, gSum_lst, chkOf_p, lItems_lst, eNeg_ap, eIf_ap, aNil_ap, aCons_ap, eTup_ap, eLst_ap, eLstO_ap, eB_ap, eCall_ap, eMth_ap, eIsi_ap, eSl_ap, oNone_ap, oSome_ap, eLc_ap, sSeq_ap, sNil_ap, sBrk_ap, sCnt_ap, sExpr_ap, rtO_some, sRetR_ap, sRetN_ap, sIf_ap, sSet_ap, nxG_ok, sAsg_ap, sAug_ap, gNm_ap, sFor_ap, iRgA_ap, iRgB_ap, iTpl_ap, iLst_ap, restD_p', restAll_nil, restAll_cons, gAdd_int, gAdd_str, gAdd_tup, gAdd_lst, gAddI_int, gSub_int, gMul_int, gMod_int, gFdv_int, gPow_int, gLt_int, gLe_int, gGt_int, gGe_int, gEq_int, gEq_str, gEq_bl, atI_nat', atI_0, atI_1, atI_2, atI_3, atI_4, atI_5, gIx_tup, gIx_lst, gIx_scr, gIx_ob, obL_lst, obL_fz, gLen_tup, gLen_lst, gLen_scr, gLen_ob, gToInt_int, gToInt_bl, gToStr_int, truD_bl, gMin2_int, gMax2_int, isLst_ob, isLst_lst, obO_lst, oLst_ob, appO_some, gApp_ap, gSetL_ap, okE_some, setL_ob, ixN_0, ixN_1, sizeLine_val, rngL_length, List.set_cons_zero, List.set_cons_succ, List.getElem?_cons_zero, List.getElem?_cons_succ, Option.join_some, Option.map_some, Option.bind_some, List.length_cons, List.length_nil, Option.isSome_some, if_true, if_false, Bool.false_eq_true, Bool.false_xor, Bool.true_xor, and_self, Nat.reduceAdd, Nat.reduceLeDiff, reduceIte, List.append_nil, Bool.not_true, Bool.not_false, bYes_ap, gIsN_ap, isNoneD_int, isNoneD_none, Bool.not_not, Pt.py, u3, u4]
    exact WE_pick rfl hc q
  | strip ac nm j e =>
    cases ac with
    | true =>
      simp -implicitDefEqProofs only [WE_ok, WE_bind, WE_ite, WE_no, WS_nx, WS_rt, WS_bk, WS_ct, WS_lift, WS_seq, WS_ite, oRs_some, eVar_ap, eC_ap, eBin_ap, isB_bl, asB_ap, bAnd_ap, bOr_ap, bNot_ap, bTru_ap, eAnd_wp, eOr_wp, eNot_wp, andR_bl, orR_bl, notR_bl, decide_eq_true_eq, gAny_lst, gAll_lst, gSum_lst, chkOf_p, lItems_lst, eNeg_ap, eIf_ap, aNil_ap, aCons_ap, eTup_ap, eLst_ap, eLstO_ap, eB_ap, eCall_ap, eMth_ap, eIsi_ap, eSl_ap, oNone_ap, oSome_ap, eLc_ap, sSeq_ap, sNil_ap, sBrk_ap, sCnt_ap, sExpr_ap, rtO_some, sRetR_ap, sRetN_ap, sIf_ap, sSet_ap, nxG_ok, sAsg_ap, sAug_ap, gNm_ap, sFor_ap, iRgA_ap, iRgB_ap, iTpl_ap, iLst_ap, restD_p', restAll_nil, restAll_cons, gAdd_int, gAdd_str, gAdd_tup, gAdd_lst, gAddI_int, gSub_int, gMul_int, gMod_int, gFdv_int, gPow_int, gLt_int, gLe_int, gGt_int, gGe_int, gEq_int, gEq_str, gEq_bl, atI_nat', atI_0, atI_1, atI_2, atI_3, atI_4, atI_5, gIx_tup, gIx_lst, gIx_scr, gIx_ob, obL_lst, obL_fz, gLen_tup, gLen_lst, gLen_scr, gLen_ob, gToInt_int, gToInt_bl, gToStr_int, truD_bl, gMin2_int, gMax2_int, isLst_ob, isLst_lst, obO_lst, oLst_ob, appO_some, gApp_ap, gSetL_ap, okE_some, setL_ob, ixN_0, ixN_1, sizeLine_val, rngL_length, List.set_cons_zero, List.set_cons_succ, List.getElem?_cons_zero, List.getElem?_cons_succ, Option.join_some, Option.map_some, Option.bind_some, List.length_cons, List.length_nil, Option.isSome_some, if_true, if_false, Bool.false_eq_true, Bool.false_xor, Bool.true_xor, and_self, Nat.reduceAdd, Nat.reduceLeDiff, reduceIte, List.append_nil, Bool.not_true, Bool.not_false, bYes_ap, gIsN_ap, isNoneD_int, isNoneD_none, Bool.not_not, Pt.py, dirS, beq_self_eq_true]
      exact WE_pick rfl hc q
    | false =>
      simp -implicitDefEqProofs only [WE_ok, WE_bind, WE_ite, WE_no, WS_nx, WS_rt, WS_bk, WS_ct, WS_lift, WS_seq, WS_ite, oRs_some, eVar_ap, eC_ap, eBin_ap, isB_bl, asB_ap, bAnd_ap, bOr_ap, bNot_ap, bTru_ap, eAnd_wp, eOr_wp, eNot_wp, andR_bl, orR_bl, notR_bl, decide_eq_true_eq, gAny_lst, gAll_lst, gSum_lst, chkOf_p, lItems_lst, eNeg_ap, eIf_ap, aNil_ap, aCons_ap, eTup_ap, eLst_ap, eLstO_ap, eB_ap, eCall_ap, eMth_ap, eIsi_ap, eSl_ap, oNone_ap, oSome_ap, eLc_ap, sSeq_ap, sNil_ap, sBrk_ap, sCnt_ap, sExpr_ap, rtO_some, sRetR_ap, sRetN_ap, sIf_ap, sSet_ap, nxG_ok, sAsg_ap, sAug_ap, gNm_ap, sFor_ap, iRgA_ap, iRgB_ap, iTpl_ap, iLst_ap, restD_p', restAll_nil, restAll_cons, gAdd_int, gAdd_str, gAdd_tup, gAdd_lst, gAddI_int, gSub_int, gMul_int, gMod_int, gFdv_int, gPow_int, gLt_int, gLe_int, gGt_int, gGe_int, gEq_int, gEq_str, gEq_bl, atI_nat', atI_0, atI_1, atI_2, atI_3, atI_4, atI_5, gIx_tup, gIx_lst, gIx_scr, gIx_ob, obL_lst, obL_fz, gLen_tup, gLen_lst, gLen_scr, gLen_ob, gToInt_int, gToInt_bl, gToStr_int, truD_bl, gMin2_int, gMax2_int, isLst_ob, isLst_lst, obO_lst, oLst_ob, appO_some, gApp_ap, gSetL_ap, okE_some, setL_ob, ixN_0, ixN_1, sizeLine_val, rngL_length, List.set_cons_zero, List.set_cons_succ, List.getElem?_cons_zero, List.getElem?_cons_succ, Option.join_some, Option.map_some, Option.bind_some, List.length_cons, List.length_nil, Option.isSome_some, if_true, if_false, Bool.false_eq_true, Bool.false_xor, Bool.true_xor, and_self, Nat.reduceAdd, Nat.reduceLeDiff, reduceIte, List.append_nil, Bool.not_true, Bool.not_false, bYes_ap, gIsN_ap, isNoneD_int, isNoneD_none, Bool.not_not, Pt.py, dirS, s4, beq_self_eq_true]
      exact WE_pick rfl hc q
def ovl (a o : Rg) : Bool := decide (a.x < o.x + o.w) && (decide (o.x < a.x + a.w) && (decide (a.y < o.y + o.h) && decide (o.y < a.y + a.h)))
theorem overlap_wp {a o : Rg} (hc : ClS 0 S) (q : Q (.bl (ovl a o)) S) : WE (G_overlap [.p a.py, .p o.py] S) Q E := by
  have i1 : ((a.x : Int) < (o.x : Int) + (o.w : Int)) = (a.x < o.x + o.w) := by rw [eq_iff_iff]; omega
  have i2 : ((o.x : Int) < (a.x : Int) + (a.w : Int)) = (o.x < a.x + a.w) := by rw [eq_iff_iff]; omega
  have i3 : ((a.y : Int) < (o.y : Int) + (o.h : Int)) = (a.y < o.y + o.h) := by rw [eq_iff_iff]; omega
  have i4 : ((o.y : Int) < (a.y : Int) + (a.h : Int)) = (o.y < a.y + a.h) := by rw [eq_iff_iff]; omega
  refine WE_def (fun d S' => d = .bl (ovl a o) ∧ S' = S) ?_ (fun d S' ⟨e1, e2⟩ => ⟨_, S, [], e1, by rw [e2, List.append_nil], rfl, hc, q⟩)
  rw [show start0 NN_overlap [.p a.py, .p o.py] = [some (.p a.py), some (.p o.py)] from rfl]
  unfold B_overlap ovl
  simp -implicitDefEqProofs only [WE_ok, WE_bind, WE_ite, WE_no, WS_nx, WS_rt, WS_bk, WS_ct, WS_lift, WS_seq, WS_ite, oRs_some, eVar_ap, eC_ap, eBin_ap, isB_bl, asB_ap, bAnd_ap, bOr_ap, bNot_ap, bTru_ap, eAnd_wp, eOr_wp, eNot_wp, andR_bl, orR_bl, notR_bl, decide_eq_true_eq, gAny_lst, gAll_lst, gSum_lst, chkOf_p, lItems_lst, eNeg_ap, eIf_ap, aNil_ap, aCons_ap, eTup_ap, eLst_ap, eLstO_ap, eB_ap, eCall_ap, eMth_ap, eIsi_ap, eSl_ap, oNone_ap, oSome_ap, eLc_ap, sSeq_ap, sNil_ap, sBrk_ap, sCnt_ap, sExpr_ap, rtO_some, sRetR_ap, sRetN_ap, sIf_ap, sSet_ap, nxG_ok, sAsg_ap, sAug_ap, gNm_ap, sFor_ap, iRgA_ap, iRgB_ap, iTpl_ap, iLst_ap, restD_p', restAll_nil, restAll_cons, gAdd_int, gAdd_str, gAdd_tup, gAdd_lst, gAddI_int, gSub_int, gMul_int, gMod_int, gFdv_int, gPow_int, gLt_int, gLe_int, gGt_int, gGe_int, gEq_int, gEq_str, gEq_bl, atI_nat', atI_0, atI_1, atI_2, atI_3, atI_4, atI_5, gIx_tup, gIx_lst, gIx_scr, gIx_ob, obL_lst, obL_fz, gLen_tup, gLen_lst, gLen_scr, gLen_ob, gToInt_int, gToInt_bl, gToStr_int, truD_bl, gMin2_int, gMax2_int, isLst_ob, isLst_lst, obO_lst, oLst_ob, appO_some, gApp_ap, gSetL_ap, okE_some, setL_ob, ixN_0, ixN_1, sizeLine_val, rngL_length, List.set_cons_zero, List.set_cons_succ, List.getElem?_cons_zero, List.getElem?_cons_succ, Option.join_some, Option.map_some, Option.bind_some, List.length_cons, List.length_nil, Option.isSome_some, if_true, if_false, Bool.false_eq_true, Bool.false_xor, Bool.true_xor, and_self, Nat.reduceAdd, Nat.reduceLeDiff, reduceIte, List.append_nil, Bool.not_true, Bool.not_false, bYes_ap, gIsN_ap, isNoneD_int, isNoneD_none, Bool.not_not, Rg.py, i1, i2, i3, i4]
  by_cases c1 : a.x < o.x + o.w
  · by_cases c2 : o.x < a.x + a.w
    · by_cases c3 : a.y < o.y + o.h
      · simp [c1, c2, c3]
      · simp [c1, c2, c3]
    · simp [c1, c2]
  · simp [c1]
theorem meets_wp {a o : Rg} (hc : ClS 0 S) (q : Q (.bl (ovl a o)) S) : WE (G_law_meets [.p o.py, .p a.py] S) Q E := by
  have i1 : ((a.x : Int) + (a.w : Int) ≤ (o.x : Int)) = ¬ (o.x < a.x + a.w) := by rw [eq_iff_iff]; omega
  have i2 : ((o.x : Int) + (o.w : Int) ≤ (a.x : Int)) = ¬ (a.x < o.x + o.w) := by rw [eq_iff_iff]; omega
  have i3 : ((o.y : Int) < (a.y : Int) + (a.h : Int)) = (o.y < a.y + a.h) := by rw [eq_iff_iff]; omega
  have i4 : ((a.y : Int) < (o.y : Int) + (o.h : Int)) = (a.y < o.y + o.h) := by rw [eq_iff_iff]; omega
  refine WE_def (fun d S' => d = .bl (ovl a o) ∧ S' = S) ?_ (fun d S' ⟨e1, e2⟩ => ⟨_, S, [], e1, by rw [e2, List.append_nil], rfl, hc, q⟩)
  rw [show start0 NN_law_meets [.p o.py, .p a.py] = [some (.p o.py), some (.p a.py)] from rfl]
  unfold B_law_meets ovl
  simp -implicitDefEqProofs only [WE_ok, WE_bind, WE_ite, WE_no, WS_nx, WS_rt, WS_bk, WS_ct, WS_lift, WS_seq, WS_ite, oRs_some, eVar_ap, eC_ap, eBin_ap, isB_bl, asB_ap, bAnd_ap, bOr_ap, bNot_ap, bTru_ap, eAnd_wp, eOr_wp, eNot_wp, andR_bl, orR_bl, notR_bl, decide_eq_true_eq, gAny_lst, gAll_lst, gSum_lst, chkOf_p, lItems_lst, eNeg_ap, eIf_ap, aNil_ap, aCons_ap, eTup_ap, eLst_ap, eLstO_ap, eB_ap, eCall_ap, eMth_ap, eIsi_ap, eSl_ap, oNone_ap, oSome_ap, eLc_ap, sSeq_ap, sNil_ap, sBrk_ap, sCnt_ap, sExpr_ap, rtO_some, sRetR_ap, sRetN_ap, sIf_ap, sSet_ap, nxG_ok, sAsg_ap, sAug_ap, gNm_ap, sFor_ap, iRgA_ap, iRgB_ap, iTpl_ap, iLst_ap, restD_p', restAll_nil, restAll_cons, gAdd_int, gAdd_str, gAdd_tup, gAdd_lst, gAddI_int, gSub_int, gMul_int, gMod_int, gFdv_int, gPow_int, gLt_int, gLe_int, gGt_int, gGe_int, gEq_int, gEq_str, gEq_bl, atI_nat', atI_0, atI_1, atI_2, atI_3, atI_4, atI_5, gIx_tup, gIx_lst, gIx_scr, gIx_ob, obL_lst, obL_fz, gLen_tup, gLen_lst, gLen_scr, gLen_ob, gToInt_int, gToInt_bl, gToStr_int, truD_bl, gMin2_int, gMax2_int, isLst_ob, isLst_lst, obO_lst, oLst_ob, appO_some, gApp_ap, gSetL_ap, okE_some, setL_ob, ixN_0, ixN_1, sizeLine_val, rngL_length, List.set_cons_zero, List.set_cons_succ, List.getElem?_cons_zero, List.getElem?_cons_succ, Option.join_some, Option.map_some, Option.bind_some, List.length_cons, List.length_nil, Option.isSome_some, if_true, if_false, Bool.false_eq_true, Bool.false_xor, Bool.true_xor, and_self, Nat.reduceAdd, Nat.reduceLeDiff, reduceIte, List.append_nil, Bool.not_true, Bool.not_false, bYes_ap, gIsN_ap, isNoneD_int, isNoneD_none, Bool.not_not, Rg.py, i1, i2, i3, i4]
  by_cases c1 : a.x < o.x + o.w
  · by_cases c2 : o.x < a.x + a.w
    · by_cases c4 : o.y < a.y + a.h
      · by_cases c3 : a.y < o.y + o.h
        · simp [c1, c2, c3, c4]
        · simp [c1, c2, c3, c4]
      · by_cases c3 : a.y < o.y + o.h
        · simp [c1, c2, c3, c4]
        · simp [c1, c2, c3, c4]
    · simp [c1, c2]
  · by_cases c2 : o.x < a.x + a.w
    · simp [c1, c2]
    · simp [c1, c2]
/-- what b1 says -/
def allowV (pt : Pt) (r : Rg) (F B : List Rg) : Bool := if r ∈ B then false else if pt.isStrip = true then true else !(F.map fun o => decide (o ≠ r) && ovl r o).any id
def wishD (F B : List Rg) : PyData := .tuple [.tuple (F.map Rg.py), .tuple (B.map Rg.py)]
theorem allowed_wp {Ps : List Pt} {pt : Pt} {r : Rg} {F B : List Rg} (ep : Ps[r.p]? = some pt) (hF : F.length < 1000000) (hc : ClS 0 S) (q : Q (.bl (allowV pt r F B)) S) : WE (G_allowed [.p (.tuple (Ps.map Pt.py)), .p r.py, .p (wishD F B)] S) Q E := by
  refine WE_def (fun d S' => d = .bl (allowV pt r F B) ∧ S' = S) ?_ (fun d S' ⟨e1, e2⟩ => ⟨_, S, [], e1, by rw [e2, List.append_nil], rfl, hc, q⟩)
  rw [show start0 NN_allowed [.p (.tuple (Ps.map Pt.py)), .p r.py, .p (wishD F B)] = [some (.p (.tuple (Ps.map Pt.py))), some (.p r.py), some (.p (wishD F B)), none, none, none] from rfl]
  unfold B_allowed allowV
  refine WS_cut (fun ρ S1 => S1 = S ∧ ρ = [some (.p (.tuple (Ps.map Pt.py))), some (.p r.py), some (.p (wishD F B)), some (.p (.tuple (F.map Rg.py))), some (.p (.tuple (B.map Rg.py))), none]) ?_ ?_
  · have g : gTupD 2 (gsCons (gNm 3) (gsCons (gNm 4) gsNil)) (.p (wishD F B)) [some (.p (.tuple (Ps.map Pt.py))), some (.p r.py), some (.p (wishD F B)), none, none, none] S = .ok [some (.p (.tuple (Ps.map Pt.py))), some (.p r.py), some (.p (wishD F B)), some (.p (.tuple (F.map Rg.py))), some (.p (.tuple (B.map Rg.py))), none] S := rfl
    simp -implicitDefEqProofs only [WE_ok, WE_bind, WE_ite, WE_no, WS_nx, WS_rt, WS_bk, WS_ct, WS_lift, WS_seq, WS_ite, oRs_some, eVar_ap, eC_ap, eBin_ap, isB_bl, asB_ap, bAnd_ap, bOr_ap, bNot_ap, bTru_ap, eAnd_wp, eOr_wp, eNot_wp, andR_bl, orR_bl, notR_bl, decide_eq_true_eq, gAny_lst, gAll_lst, gSum_lst, chkOf_p, lItems_lst, eNeg_ap, eIf_ap, aNil_ap, aCons_ap, eTup_ap, eLst_ap, eLstO_ap, eB_ap, eCall_ap, eMth_ap, eIsi_ap, eSl_ap, oNone_ap, oSome_ap, eLc_ap, sSeq_ap, sNil_ap, sBrk_ap, sCnt_ap, sExpr_ap, rtO_some, sRetR_ap, sRetN_ap, sIf_ap, sSet_ap, nxG_ok, sAsg_ap, sAug_ap, gNm_ap, sFor_ap, iRgA_ap, iRgB_ap, iTpl_ap, iLst_ap, restD_p', restAll_nil, restAll_cons, gAdd_int, gAdd_str, gAdd_tup, gAdd_lst, gAddI_int, gSub_int, gMul_int, gMod_int, gFdv_int, gPow_int, gLt_int, gLe_int, gGt_int, gGe_int, gEq_int, gEq_str, gEq_bl, atI_nat', atI_0, atI_1, atI_2, atI_3, atI_4, atI_5, gIx_tup, gIx_lst, gIx_scr, gIx_ob, obL_lst, obL_fz, gLen_tup, gLen_lst, gLen_scr, gLen_ob, gToInt_int, gToInt_bl, gToStr_int, truD_bl, gMin2_int, gMax2_int, isLst_ob, isLst_lst, obO_lst, oLst_ob, appO_some, gApp_ap, gSetL_ap, okE_some, setL_ob, ixN_0, ixN_1, sizeLine_val, rngL_length, List.set_cons_zero, List.set_cons_succ, List.getElem?_cons_zero, List.getElem?_cons_succ, Option.join_some, Option.map_some, Option.bind_some, List.length_cons, List.length_nil, Option.isSome_some, if_true, if_false, Bool.false_eq_true, Bool.false_xor, Bool.true_xor, and_self, Nat.reduceAdd, Nat.reduceLeDiff, reduceIte, List.append_nil, Bool.not_true, Bool.not_false, bYes_ap, gIsN_ap, isNoneD_int, isNoneD_none, Bool.not_not, g]
    all_goals exact ⟨by trivial, by trivial⟩
  rintro ρ S1 ⟨rfl, rfl⟩
  by_cases hB : r ∈ B
  · rw [if_pos hB]
    simp -implicitDefEqProofs only [WE_ok, WE_bind, WE_ite, WE_no, WS_nx, WS_rt, WS_bk, WS_ct, WS_lift, WS_seq, WS_ite, oRs_some, eVar_ap, eC_ap, eBin_ap, isB_bl, asB_ap, bAnd_ap, bOr_ap, bNot_ap, bTru_ap, eAnd_wp, eOr_wp, eNot_wp, andR_bl, orR_bl, notR_bl, decide_eq_true_eq, gAny_lst, gAll_lst, gSum_lst, chkOf_p, lItems_lst, eNeg_ap, eIf_ap, aNil_ap, aCons_ap, eTup_ap, eLst_ap, eLstO_ap, eB_ap, eCall_ap, eMth_ap, eIsi_ap, eSl_ap, oNone_ap, oSome_ap, eLc_ap, sSeq_ap, sNil_ap, sBrk_ap, sCnt_ap, sExpr_ap, rtO_some, sRetR_ap, sRetN_ap, sIf_ap, sSet_ap, nxG_ok, sAsg_ap, sAug_ap, gNm_ap, sFor_ap, iRgA_ap, iRgB_ap, iTpl_ap, iLst_ap, restD_p', restAll_nil, restAll_cons, gAdd_int, gAdd_str, gAdd_tup, gAdd_lst, gAddI_int, gSub_int, gMul_int, gMod_int, gFdv_int, gPow_int, gLt_int, gLe_int, gGt_int, gGe_int, gEq_int, gEq_str, gEq_bl, atI_nat', atI_0, atI_1, atI_2, atI_3, atI_4, atI_5, gIx_tup, gIx_lst, gIx_scr, gIx_ob, obL_lst, obL_fz, gLen_tup, gLen_lst, gLen_scr, gLen_ob, gToInt_int, gToInt_bl, gToStr_int, truD_bl, gMin2_int, gMax2_int, isLst_ob, isLst_lst, obO_lst, oLst_ob, appO_some, gApp_ap, gSetL_ap, okE_some, setL_ob, ixN_0, ixN_1, sizeLine_val, rngL_length, List.set_cons_zero, List.set_cons_succ, List.getElem?_cons_zero, List.getElem?_cons_succ, Option.join_some, Option.map_some, Option.bind_some, List.length_cons, List.length_nil, Option.isSome_some, if_true, if_false, Bool.false_eq_true, Bool.false_xor, Bool.true_xor, and_self, Nat.reduceAdd, Nat.reduceLeDiff, reduceIte, List.append_nil, Bool.not_true, Bool.not_false, bYes_ap, gIsN_ap, isNoneD_int, isNoneD_none, Bool.not_not, gInT_rg, hB, decide_true]
    all_goals exact ⟨by trivial, by trivial⟩
  rw [if_neg hB]
  have er : ∃ z : PyData, atI [PyData.int r.p, .int r.x, .int r.y, .int r.w, .int r.h] 0 = some z := ⟨_, rfl⟩
  refine WS_cut (fun ρ S2 => S2 = S1 ∧ ρ = [some (.p (.tuple (Ps.map Pt.py))), some (.p r.py), some (.p (wishD F B)), some (.p (.tuple (F.map Rg.py))), some (.p (.tuple (B.map Rg.py))), none]) ?_ ?_
  · simp -implicitDefEqProofs only [WE_ok, WE_bind, WE_ite, WE_no, WS_nx, WS_rt, WS_bk, WS_ct, WS_lift, WS_seq, WS_ite, oRs_some, eVar_ap, eC_ap, eBin_ap, isB_bl, asB_ap, bAnd_ap, bOr_ap, bNot_ap, bTru_ap, eAnd_wp, eOr_wp, eNot_wp, andR_bl, orR_bl, notR_bl, decide_eq_true_eq, gAny_lst, gAll_lst, gSum_lst, chkOf_p, lItems_lst, eNeg_ap, eIf_ap, aNil_ap, aCons_ap, eTup_ap, eLst_ap, eLstO_ap, eB_ap, eCall_ap, eMth_ap, eIsi_ap, eSl_ap, oNone_ap, oSome_ap, eLc_ap, sSeq_ap, sNil_ap, sBrk_ap, sCnt_ap, sExpr_ap, rtO_some, sRetR_ap, sRetN_ap, sIf_ap, sSet_ap, nxG_ok, sAsg_ap, sAug_ap, gNm_ap, sFor_ap, iRgA_ap, iRgB_ap, iTpl_ap, iLst_ap, restD_p', restAll_nil, restAll_cons, gAdd_int, gAdd_str, gAdd_tup, gAdd_lst, gAddI_int, gSub_int, gMul_int, gMod_int, gFdv_int, gPow_int, gLt_int, gLe_int, gGt_int, gGe_int, gEq_int, gEq_str, gEq_bl, atI_nat', atI_0, atI_1, atI_2, atI_3, atI_4, atI_5, gIx_tup, gIx_lst, gIx_scr, gIx_ob, obL_lst, obL_fz, gLen_tup, gLen_lst, gLen_scr, gLen_ob, gToInt_int, gToInt_bl, gToStr_int, truD_bl, gMin2_int, gMax2_int, isLst_ob, isLst_lst, obO_lst, oLst_ob, appO_some, gApp_ap, gSetL_ap, okE_some, setL_ob, ixN_0, ixN_1, sizeLine_val, rngL_length, List.set_cons_zero, List.set_cons_succ, List.getElem?_cons_zero, List.getElem?_cons_succ, Option.join_some, Option.map_some, Option.bind_some, List.length_cons, List.length_nil, Option.isSome_some, if_true, if_false, Bool.false_eq_true, Bool.false_xor, Bool.true_xor, and_self, Nat.reduceAdd, Nat.reduceLeDiff, reduceIte, List.append_nil, Bool.not_true, Bool.not_false, bYes_ap, gIsN_ap, isNoneD_int, isNoneD_none, Bool.not_not, gInT_rg, hB, decide_false]
    all_goals exact ⟨by trivial, by trivial⟩
  rintro ρ S1 ⟨rfl, rfl⟩
  have gr : ∀ S : Sto, gIx (.p r.py) (.p (.int 0)) S = .ok (.p (.int r.p)) S := fun S => rfl
  refine WS_cut (fun ρ S2 => pt.isStrip = false ∧ S2 = S1 ∧ ρ = [some (.p (.tuple (Ps.map Pt.py))), some (.p r.py), some (.p (wishD F B)), some (.p (.tuple (F.map Rg.py))), some (.p (.tuple (B.map Rg.py))), none]) ?_ ?_
  · simp -implicitDefEqProofs only [WE_ok, WE_bind, WE_ite, WE_no, WS_nx, WS_rt, WS_bk, WS_ct, WS_lift, WS_seq, WS_ite, oRs_some, eVar_ap, eC_ap, eBin_ap, isB_bl, asB_ap, bAnd_ap, bOr_ap, bNot_ap, bTru_ap, eAnd_wp, eOr_wp, eNot_wp, andR_bl, orR_bl, notR_bl, decide_eq_true_eq, gAny_lst, gAll_lst, gSum_lst, chkOf_p, lItems_lst, eNeg_ap, eIf_ap, aNil_ap, aCons_ap, eTup_ap, eLst_ap, eLstO_ap, eB_ap, eCall_ap, eMth_ap, eIsi_ap, eSl_ap, oNone_ap, oSome_ap, eLc_ap, sSeq_ap, sNil_ap, sBrk_ap, sCnt_ap, sExpr_ap, rtO_some, sRetR_ap, sRetN_ap, sIf_ap, sSet_ap, nxG_ok, sAsg_ap, sAug_ap, gNm_ap, sFor_ap, iRgA_ap, iRgB_ap, iTpl_ap, iLst_ap, restD_p', restAll_nil, restAll_cons, gAdd_int, gAdd_str, gAdd_tup, gAdd_lst, gAddI_int, gSub_int, gMul_int, gMod_int, gFdv_int, gPow_int, gLt_int, gLe_int, gGt_int, gGe_int, gEq_int, gEq_str, gEq_bl, atI_nat', atI_0, atI_1, atI_2, atI_3, atI_4, atI_5, gIx_tup, gIx_lst, gIx_scr, gIx_ob, obL_lst, obL_fz, gLen_tup, gLen_lst, gLen_scr, gLen_ob, gToInt_int, gToInt_bl, gToStr_int, truD_bl, gMin2_int, gMax2_int, isLst_ob, isLst_lst, obO_lst, oLst_ob, appO_some, gApp_ap, gSetL_ap, okE_some, setL_ob, ixN_0, ixN_1, sizeLine_val, rngL_length, List.set_cons_zero, List.set_cons_succ, List.getElem?_cons_zero, List.getElem?_cons_succ, Option.join_some, Option.map_some, Option.bind_some, List.length_cons, List.length_nil, Option.isSome_some, if_true, if_false, Bool.false_eq_true, Bool.false_xor, Bool.true_xor, and_self, Nat.reduceAdd, Nat.reduceLeDiff, reduceIte, List.append_nil, Bool.not_true, Bool.not_false, bYes_ap, gIsN_ap, isNoneD_int, isNoneD_none, Bool.not_not, gr, List.getElem?_map, ep]
    refine isstrip_wp hc ?_
    cases hst : pt.isStrip with
    | true =>
      simp -implicitDefEqProofs only [WE_ok, WE_bind, WE_ite, WE_no, WS_nx, WS_rt, WS_bk, WS_ct, WS_lift, WS_seq, WS_ite, oRs_some, eVar_ap, eC_ap, eBin_ap, isB_bl, asB_ap, bAnd_ap, bOr_ap, bNot_ap, bTru_ap, eAnd_wp, eOr_wp, eNot_wp, andR_bl, orR_bl, notR_bl, decide_eq_true_eq, gAny_lst, gAll_lst, gSum_lst, chkOf_p, lItems_lst, eNeg_ap, eIf_ap, aNil_ap, aCons_ap, eTup_ap, eLst_ap, eLstO_ap, eB_ap, eCall_ap, eMth_ap, eIsi_ap, eSl_ap, oNone_ap, oSome_ap, eLc_ap, sSeq_ap, sNil_ap, sBrk_ap, sCnt_ap, sExpr_ap, rtO_some, sRetR_ap, sRetN_ap, sIf_ap, sSet_ap, nxG_ok, sAsg_ap, sAug_ap, gNm_ap, sFor_ap, iRgA_ap, iRgB_ap, iTpl_ap, iLst_ap, restD_p', restAll_nil, restAll_cons, gAdd_int, gAdd_str, gAdd_tup, gAdd_lst, gAddI_int, gSub_int, gMul_int, gMod_int, gFdv_int, gPow_int, gLt_int, gLe_int, gGt_int, gGe_int, gEq_int, gEq_str, gEq_bl, atI_nat', atI_0, atI_1, atI_2, atI_3, atI_4, atI_5, gIx_tup, gIx_lst, gIx_scr, gIx_ob, obL_lst, obL_fz, gLen_tup, gLen_lst, gLen_scr, gLen_ob, gToInt_int, gToInt_bl, gToStr_int, truD_bl, gMin2_int, gMax2_int, isLst_ob, isLst_lst, obO_lst, oLst_ob, appO_some, gApp_ap, gSetL_ap, okE_some, setL_ob, ixN_0, ixN_1, sizeLine_val, rngL_length, List.set_cons_zero, List.set_cons_succ, List.getElem?_cons_zero, List.getElem?_cons_succ, Option.join_some, Option.map_some, Option.bind_some, List.length_cons, List.length_nil, Option.isSome_some, if_true, if_false, Bool.false_eq_true, Bool.false_xor, Bool.true_xor, and_self, Nat.reduceAdd, Nat.reduceLeDiff, reduceIte, List.append_nil, Bool.not_true, Bool.not_false, bYes_ap, gIsN_ap, isNoneD_int, isNoneD_none, Bool.not_not]
      all_goals exact ⟨by trivial, by trivial⟩
    | false =>
      simp -implicitDefEqProofs only [WE_ok, WE_bind, WE_ite, WE_no, WS_nx, WS_rt, WS_bk, WS_ct, WS_lift, WS_seq, WS_ite, oRs_some, eVar_ap, eC_ap, eBin_ap, isB_bl, asB_ap, bAnd_ap, bOr_ap, bNot_ap, bTru_ap, eAnd_wp, eOr_wp, eNot_wp, andR_bl, orR_bl, notR_bl, decide_eq_true_eq, gAny_lst, gAll_lst, gSum_lst, chkOf_p, lItems_lst, eNeg_ap, eIf_ap, aNil_ap, aCons_ap, eTup_ap, eLst_ap, eLstO_ap, eB_ap, eCall_ap, eMth_ap, eIsi_ap, eSl_ap, oNone_ap, oSome_ap, eLc_ap, sSeq_ap, sNil_ap, sBrk_ap, sCnt_ap, sExpr_ap, rtO_some, sRetR_ap, sRetN_ap, sIf_ap, sSet_ap, nxG_ok, sAsg_ap, sAug_ap, gNm_ap, sFor_ap, iRgA_ap, iRgB_ap, iTpl_ap, iLst_ap, restD_p', restAll_nil, restAll_cons, gAdd_int, gAdd_str, gAdd_tup, gAdd_lst, gAddI_int, gSub_int, gMul_int, gMod_int, gFdv_int, gPow_int, gLt_int, gLe_int, gGt_int, gGe_int, gEq_int, gEq_str, gEq_bl, atI_nat', atI_0, atI_1, atI_2, atI_3, atI_4, atI_5, gIx_tup, gIx_lst, gIx_scr, gIx_ob, obL_lst, obL_fz, gLen_tup, gLen_lst, gLen_scr, gLen_ob, gToInt_int, gToInt_bl, gToStr_int, truD_bl, gMin2_int, gMax2_int, isLst_ob, isLst_lst, obO_lst, oLst_ob, appO_some, gApp_ap, gSetL_ap, okE_some, setL_ob, ixN_0, ixN_1, sizeLine_val, rngL_length, List.set_cons_zero, List.set_cons_succ, List.getElem?_cons_zero, List.getElem?_cons_succ, Option.join_some, Option.map_some, Option.bind_some, List.length_cons, List.length_nil, Option.isSome_some, if_true, if_false, Bool.false_eq_true, Bool.false_xor, Bool.true_xor, and_self, Nat.reduceAdd, Nat.reduceLeDiff, reduceIte, List.append_nil, Bool.not_true, Bool.not_false, bYes_ap, gIsN_ap, isNoneD_int, isNoneD_none, Bool.not_not]
      all_goals exact ⟨by trivial, by trivial, by trivial⟩
  rintro ρ S1 ⟨hst, rfl, rfl⟩
  rw [hst, if_neg (by decide)]
  simp -implicitDefEqProofs only [WE_ok, WE_bind, WE_ite, WE_no, WS_nx, WS_rt, WS_bk, WS_ct, WS_lift, WS_seq, WS_ite, oRs_some, eVar_ap, eC_ap, eBin_ap, isB_bl, asB_ap, bAnd_ap, bOr_ap, bNot_ap, bTru_ap, eAnd_wp, eOr_wp, eNot_wp, andR_bl, orR_bl, notR_bl, decide_eq_true_eq, gAny_lst, gAll_lst, gSum_lst, chkOf_p, lItems_lst, eNeg_ap, eIf_ap, aNil_ap, aCons_ap, eTup_ap, eLst_ap, eLstO_ap, eB_ap, eCall_ap, eMth_ap, eIsi_ap, eSl_ap, oNone_ap, oSome_ap, eLc_ap, sSeq_ap, sNil_ap, sBrk_ap, sCnt_ap, sExpr_ap, rtO_some, sRetR_ap, sRetN_ap, sIf_ap, sSet_ap, nxG_ok, sAsg_ap, sAug_ap, gNm_ap, sFor_ap, iRgA_ap, iRgB_ap, iTpl_ap, iLst_ap, restD_p', restAll_nil, restAll_cons, gAdd_int, gAdd_str, gAdd_tup, gAdd_lst, gAddI_int, gSub_int, gMul_int, gMod_int, gFdv_int, gPow_int, gLt_int, gLe_int, gGt_int, gGe_int, gEq_int, gEq_str, gEq_bl, atI_nat', atI_0, atI_1, atI_2, atI_3, atI_4, atI_5, gIx_tup, gIx_lst, gIx_scr, gIx_ob, obL_lst, obL_fz, gLen_tup, gLen_lst, gLen_scr, gLen_ob, gToInt_int, gToInt_bl, gToStr_int, truD_bl, gMin2_int, gMax2_int, isLst_ob, isLst_lst, obO_lst, oLst_ob, appO_some, gApp_ap, gSetL_ap, okE_some, setL_ob, ixN_0, ixN_1, sizeLine_val, rngL_length, List.set_cons_zero, List.set_cons_succ, List.getElem?_cons_zero, List.getElem?_cons_succ, Option.join_some, Option.map_some, Option.bind_some, List.length_cons, List.length_nil, Option.isSome_some, if_true, if_false, Bool.false_eq_true, Bool.false_xor, Bool.true_xor, and_self, Nat.reduceAdd, Nat.reduceLeDiff, reduceIte, List.append_nil, Bool.not_true, Bool.not_false, bYes_ap, gIsN_ap, isNoneD_int, isNoneD_none, Bool.not_not]
  refine WE_lc (fun i acc S2 => S2 = S1 ∧ acc = ((F.take i).map fun o => decide (o ≠ r) && ovl r o).map .bool) _ 0 _ _ ⟨rfl, by simp⟩ ?_ ?_
  · rintro i d acc S2 hd ⟨rfl, rfl⟩
    rw [List.map_map, List.getElem?_map] at hd
    cases eo : F[i]? with
    | none => rw [eo] at hd; cases hd
    | some o =>
      rw [eo] at hd
      cases hd
      have hi : i < F.length := (List.getElem?_eq_some_iff.mp eo).1
      have hL : (((F.take (0 + i)).map fun o => decide (o ≠ r) && ovl r o).map PyData.bool).length < sizeLine := by
        rw [List.length_map, List.length_map, List.length_take, sizeLine_eq]; omega
      have tk : F.take (0 + i + 1) = F.take (0 + i) ++ [o] := by
        rw [Nat.zero_add, List.take_succ, eo]; rfl
      rw [show wipeE [some (D.p (.tuple (Ps.map Pt.py))), some (.p r.py), some (.p (wishD F B)), some (.p (.tuple (F.map Rg.py))), some (.p (.tuple (B.map Rg.py))), none] [5] = [some (.p (.tuple (Ps.map Pt.py))), some (.p r.py), some (.p (wishD F B)), some (.p (.tuple (F.map Rg.py))), some (.p (.tuple (B.map Rg.py))), none] from rfl]
      rw [tk]
      simp -implicitDefEqProofs only [WE_ok, WE_bind, WE_ite, WE_no, WS_nx, WS_rt, WS_bk, WS_ct, WS_lift, WS_seq, WS_ite, oRs_some, eVar_ap, eC_ap, eBin_ap, isB_bl, asB_ap, bAnd_ap, bOr_ap, bNot_ap, bTru_ap, eAnd_wp, eOr_wp, eNot_wp, andR_bl, orR_bl, notR_bl, decide_eq_true_eq, gAny_lst, gAll_lst, gSum_lst, chkOf_p, lItems_lst, eNeg_ap, eIf_ap, aNil_ap, aCons_ap, eTup_ap, eLst_ap, eLstO_ap, eB_ap, eCall_ap, eMth_ap, eIsi_ap, eSl_ap, oNone_ap, oSome_ap, eLc_ap, sSeq_ap, sNil_ap, sBrk_ap, sCnt_ap, sExpr_ap, rtO_some, sRetR_ap, sRetN_ap, sIf_ap, sSet_ap, nxG_ok, sAsg_ap, sAug_ap, gNm_ap, sFor_ap, iRgA_ap, iRgB_ap, iTpl_ap, iLst_ap, restD_p', restAll_nil, restAll_cons, gAdd_int, gAdd_str, gAdd_tup, gAdd_lst, gAddI_int, gSub_int, gMul_int, gMod_int, gFdv_int, gPow_int, gLt_int, gLe_int, gGt_int, gGe_int, gEq_int, gEq_str, gEq_bl, atI_nat', atI_0, atI_1, atI_2, atI_3, atI_4, atI_5, gIx_tup, gIx_lst, gIx_scr, gIx_ob, obL_lst, obL_fz, gLen_tup, gLen_lst, gLen_scr, gLen_ob, gToInt_int, gToInt_bl, gToStr_int, truD_bl, gMin2_int, gMax2_int, isLst_ob, isLst_lst, obO_lst, oLst_ob, appO_some, gApp_ap, gSetL_ap, okE_some, setL_ob, ixN_0, ixN_1, sizeLine_val, rngL_length, List.set_cons_zero, List.set_cons_succ, List.getElem?_cons_zero, List.getElem?_cons_succ, Option.join_some, Option.map_some, Option.bind_some, List.length_cons, List.length_nil, Option.isSome_some, if_true, if_false, Bool.false_eq_true, Bool.false_xor, Bool.true_xor, and_self, Nat.reduceAdd, Nat.reduceLeDiff, reduceIte, List.append_nil, Bool.not_true, Bool.not_false, bYes_ap, gIsN_ap, isNoneD_int, isNoneD_none, Bool.not_not, Function.comp_apply, gEq_rg]
      by_cases ho : o = r
      · simp -implicitDefEqProofs only [WE_ok, WE_bind, WE_ite, WE_no, WS_nx, WS_rt, WS_bk, WS_ct, WS_lift, WS_seq, WS_ite, oRs_some, eVar_ap, eC_ap, eBin_ap, isB_bl, asB_ap, bAnd_ap, bOr_ap, bNot_ap, bTru_ap, eAnd_wp, eOr_wp, eNot_wp, andR_bl, orR_bl, notR_bl, decide_eq_true_eq, gAny_lst, gAll_lst, gSum_lst, chkOf_p, lItems_lst, eNeg_ap, eIf_ap, aNil_ap, aCons_ap, eTup_ap, eLst_ap, eLstO_ap, eB_ap, eCall_ap, eMth_ap, eIsi_ap, eSl_ap, oNone_ap, oSome_ap, eLc_ap, sSeq_ap, sNil_ap, sBrk_ap, sCnt_ap, sExpr_ap, rtO_some, sRetR_ap, sRetN_ap, sIf_ap, sSet_ap, nxG_ok, sAsg_ap, sAug_ap, gNm_ap, sFor_ap, iRgA_ap, iRgB_ap, iTpl_ap, iLst_ap, restD_p', restAll_nil, restAll_cons, gAdd_int, gAdd_str, gAdd_tup, gAdd_lst, gAddI_int, gSub_int, gMul_int, gMod_int, gFdv_int, gPow_int, gLt_int, gLe_int, gGt_int, gGe_int, gEq_int, gEq_str, gEq_bl, atI_nat', atI_0, atI_1, atI_2, atI_3, atI_4, atI_5, gIx_tup, gIx_lst, gIx_scr, gIx_ob, obL_lst, obL_fz, gLen_tup, gLen_lst, gLen_scr, gLen_ob, gToInt_int, gToInt_bl, gToStr_int, truD_bl, gMin2_int, gMax2_int, isLst_ob, isLst_lst, obO_lst, oLst_ob, appO_some, gApp_ap, gSetL_ap, okE_some, setL_ob, ixN_0, ixN_1, sizeLine_val, rngL_length, List.set_cons_zero, List.set_cons_succ, List.getElem?_cons_zero, List.getElem?_cons_succ, Option.join_some, Option.map_some, Option.bind_some, List.length_cons, List.length_nil, Option.isSome_some, if_true, if_false, Bool.false_eq_true, Bool.false_xor, Bool.true_xor, and_self, Nat.reduceAdd, Nat.reduceLeDiff, reduceIte, List.append_nil, Bool.not_true, Bool.not_false, bYes_ap, gIsN_ap, isNoneD_int, isNoneD_none, Bool.not_not, ho, decide_true]
        refine ⟨_, _, rfl, hL, trivial, rfl, ?_⟩
        simp [ho]
      · simp -implicitDefEqProofs only [WE_ok, WE_bind, WE_ite, WE_no, WS_nx, WS_rt, WS_bk, WS_ct, WS_lift, WS_seq, WS_ite, oRs_some, eVar_ap, eC_ap, eBin_ap, isB_bl, asB_ap, bAnd_ap, bOr_ap, bNot_ap, bTru_ap, eAnd_wp, eOr_wp, eNot_wp, andR_bl, orR_bl, notR_bl, decide_eq_true_eq, gAny_lst, gAll_lst, gSum_lst, chkOf_p, lItems_lst, eNeg_ap, eIf_ap, aNil_ap, aCons_ap, eTup_ap, eLst_ap, eLstO_ap, eB_ap, eCall_ap, eMth_ap, eIsi_ap, eSl_ap, oNone_ap, oSome_ap, eLc_ap, sSeq_ap, sNil_ap, sBrk_ap, sCnt_ap, sExpr_ap, rtO_some, sRetR_ap, sRetN_ap, sIf_ap, sSet_ap, nxG_ok, sAsg_ap, sAug_ap, gNm_ap, sFor_ap, iRgA_ap, iRgB_ap, iTpl_ap, iLst_ap, restD_p', restAll_nil, restAll_cons, gAdd_int, gAdd_str, gAdd_tup, gAdd_lst, gAddI_int, gSub_int, gMul_int, gMod_int, gFdv_int, gPow_int, gLt_int, gLe_int, gGt_int, gGe_int, gEq_int, gEq_str, gEq_bl, atI_nat', atI_0, atI_1, atI_2, atI_3, atI_4, atI_5, gIx_tup, gIx_lst, gIx_scr, gIx_ob, obL_lst, obL_fz, gLen_tup, gLen_lst, gLen_scr, gLen_ob, gToInt_int, gToInt_bl, gToStr_int, truD_bl, gMin2_int, gMax2_int, isLst_ob, isLst_lst, obO_lst, oLst_ob, appO_some, gApp_ap, gSetL_ap, okE_some, setL_ob, ixN_0, ixN_1, sizeLine_val, rngL_length, List.set_cons_zero, List.set_cons_succ, List.getElem?_cons_zero, List.getElem?_cons_succ, Option.join_some, Option.map_some, Option.bind_some, List.length_cons, List.length_nil, Option.isSome_some, if_true, if_false, Bool.false_eq_true, Bool.false_xor, Bool.true_xor, and_self, Nat.reduceAdd, Nat.reduceLeDiff, reduceIte, List.append_nil, Bool.not_true, Bool.not_false, bYes_ap, gIsN_ap, isNoneD_int, isNoneD_none, Bool.not_not, ho, decide_false]
        refine overlap_wp hc ?_
        refine ⟨_, _, rfl, hL, trivial, rfl, ?_⟩
        simp [ho]
  · rintro acc S2 ⟨rfl, rfl⟩
    rw [List.length_map, List.length_map, Nat.zero_add, List.take_length]
    simp -implicitDefEqProofs only [WE_ok, WE_bind, WE_ite, WE_no, WS_nx, WS_rt, WS_bk, WS_ct, WS_lift, WS_seq, WS_ite, oRs_some, eVar_ap, eC_ap, eBin_ap, isB_bl, asB_ap, bAnd_ap, bOr_ap, bNot_ap, bTru_ap, eAnd_wp, eOr_wp, eNot_wp, andR_bl, orR_bl, notR_bl, decide_eq_true_eq, gAny_lst, gAll_lst, gSum_lst, chkOf_p, lItems_lst, eNeg_ap, eIf_ap, aNil_ap, aCons_ap, eTup_ap, eLst_ap, eLstO_ap, eB_ap, eCall_ap, eMth_ap, eIsi_ap, eSl_ap, oNone_ap, oSome_ap, eLc_ap, sSeq_ap, sNil_ap, sBrk_ap, sCnt_ap, sExpr_ap, rtO_some, sRetR_ap, sRetN_ap, sIf_ap, sSet_ap, nxG_ok, sAsg_ap, sAug_ap, gNm_ap, sFor_ap, iRgA_ap, iRgB_ap, iTpl_ap, iLst_ap, restD_p', restAll_nil, restAll_cons, gAdd_int, gAdd_str, gAdd_tup, gAdd_lst, gAddI_int, gSub_int, gMul_int, gMod_int, gFdv_int, gPow_int, gLt_int, gLe_int, gGt_int, gGe_int, gEq_int, gEq_str, gEq_bl, atI_nat', atI_0, atI_1, atI_2, atI_3, atI_4, atI_5, gIx_tup, gIx_lst, gIx_scr, gIx_ob, obL_lst, obL_fz, gLen_tup, gLen_lst, gLen_scr, gLen_ob, gToInt_int, gToInt_bl, gToStr_int, truD_bl, gMin2_int, gMax2_int, isLst_ob, isLst_lst, obO_lst, oLst_ob, appO_some, gApp_ap, gSetL_ap, okE_some, setL_ob, ixN_0, ixN_1, sizeLine_val, rngL_length, List.set_cons_zero, List.set_cons_succ, List.getElem?_cons_zero, List.getElem?_cons_succ, Option.join_some, Option.map_some, Option.bind_some, List.length_cons, List.length_nil, Option.isSome_some, if_true, if_false, Bool.false_eq_true, Bool.false_xor, Bool.true_xor, and_self, Nat.reduceAdd, Nat.reduceLeDiff, reduceIte, List.append_nil, Bool.not_true, Bool.not_false, bYes_ap, gIsN_ap, isNoneD_int, isNoneD_none, Bool.not_not]
    all_goals exact ⟨by trivial, by trivial⟩
end
end My

namespace My
open PySem PySem.Spec PyProof.Rows L2 DL
section
variable {S : Sto} {n : Nat} {b : O} {Q : D → Sto → Prop} {E : Xc → Sto → Prop}
theorem gr0 {r : Rg} {S : Sto} : gIx (.p r.py) (.p (.int 0)) S = .ok (.p (.int r.p)) S := rfl
theorem gr1 {r : Rg} {S : Sto} : gIx (.p r.py) (.p (.int 1)) S = .ok (.p (.int r.x)) S := rfl
theorem gr2 {r : Rg} {S : Sto} : gIx (.p r.py) (.p (.int 2)) S = .ok (.p (.int r.y)) S := rfl
theorem gr3 {r : Rg} {S : Sto} : gIx (.p r.py) (.p (.int 3)) S = .ok (.p (.int r.w)) S := rfl
theorem gr4 {r : Rg} {S : Sto} : gIx (.p r.py) (.p (.int 4)) S = .ok (.p (.int r.h)) S := rfl
theorem w0 {F B : List Rg} {S : Sto} : gIx (.p (wishD F B)) (.p (.int 0)) S = .ok (.p (.tuple (F.map Rg.py))) S := rfl
theorem w1 {F B : List Rg} {S : Sto} : gIx (.p (wishD F B)) (.p (.int 1)) S = .ok (.p (.tuple (B.map Rg.py))) S := rfl
theorem lawallowed_wp {Ps : List Pt} {pt : Pt} {r : Rg} {F B : List Rg} (ep : Ps[r.p]? = some pt) (hF : F.length < 1000000) (hc : ClS 0 S) (q : Q (.bl (allowV pt r F B)) S) : WE (G_law_allowed [.p (.tuple (Ps.map Pt.py)), .p (.list [r.py]), .p (wishD F B)] S) Q E := by
  refine WE_def (fun d S' => d = .bl (allowV pt r F B) ∧ S' = S) ?_ (fun d S' ⟨e1, e2⟩ => ⟨_, S, [], e1, by rw [e2, List.append_nil], rfl, hc, q⟩)
  rw [show start0 NN_law_allowed [.p (.tuple (Ps.map Pt.py)), .p (.list [r.py]), .p (wishD F B)] = [some (.p (.tuple (Ps.map Pt.py))), some (.p (.list [r.py])), some (.p (wishD F B)), none, none] from rfl]
  unfold B_law_allowed
  refine WS_cut (fun ρ S1 => S1 = S ∧ allowV pt r F B = true) ?_ ?_
  · simp -implicitDefEqProofs only [WE_ok, WE_bind, WE_ite, WE_no, WS_nx, WS_rt, WS_bk, WS_ct, WS_lift, WS_seq, WS_ite, oRs_some, eVar_ap, eC_ap, eBin_ap, isB_bl, asB_ap, bAnd_ap, bOr_ap, bNot_ap, bTru_ap, eAnd_wp, eOr_wp, eNot_wp, andR_bl, orR_bl, notR_bl, decide_eq_true_eq, gAny_lst, gAll_lst, gSum_lst, chkOf_p, lItems_lst, eNeg_ap, eIf_ap, aNil_ap, aCons_ap, eTup_ap, eLst_ap, eLstO_ap, eB_ap, eCall_ap, eMth_ap, eIsi_ap, eSl_ap, oNone_ap, oSome_ap, eLc_ap, sSeq_ap, sNil_ap, sBrk_ap, sCnt_ap, sExpr_ap, rtO_some, sRetR_ap, sRetN_ap, sIf_ap, sSet_ap, nxG_ok, sAsg_ap, sAug_ap, gNm_ap, sFor_ap, iRgA_ap, iRgB_ap, iTpl_ap, iLst_ap, restD_p', restAll_nil, restAll_cons, gAdd_int, gAdd_str, gAdd_tup, gAdd_lst, gAddI_int, gSub_int, gMul_int, gMod_int, gFdv_int, gPow_int, gLt_int, gLe_int, gGt_int, gGe_int, gEq_int, gEq_str, gEq_bl, atI_nat', atI_0, atI_1, atI_2, atI_3, atI_4, atI_5, gIx_tup, gIx_lst, gIx_scr, gIx_ob, obL_lst, obL_fz, gLen_tup, gLen_lst, gLen_scr, gLen_ob, gToInt_int, gToInt_bl, gToStr_int, truD_bl, gMin2_int, gMax2_int, isLst_ob, isLst_lst, obO_lst, oLst_ob, appO_some, gApp_ap, gSetL_ap, okE_some, setL_ob, ixN_0, ixN_1, sizeLine_val, rngL_length, List.set_cons_zero, List.set_cons_succ, List.getElem?_cons_zero, List.getElem?_cons_succ, Option.join_some, Option.map_some, Option.bind_some, List.length_cons, List.length_nil, Option.isSome_some, if_true, if_false, Bool.false_eq_true, Bool.false_xor, Bool.true_xor, and_self, Nat.reduceAdd, Nat.reduceLeDiff, reduceIte, List.append_nil, Bool.not_true, Bool.not_false, bYes_ap, gIsN_ap, isNoneD_int, isNoneD_none, Bool.not_not, List.map_cons, List.map_nil]
    refine WS_for (fun i ρ S2 => S2 = S ∧ (i = 1 → allowV pt r F B = true) ∧ ∃ v3 v4, ρ = [some (.p (.tuple (Ps.map Pt.py))), some (.p (.list [r.py])), some (.p (wishD F B)), v3, v4]) _ 0 _ _ ⟨rfl, (fun z => by cases z), _, _, rfl⟩ ?_ ?_
    · rintro i d ρ S2 hd ⟨rfl, _, v3, v4, rfl⟩
      have ed : d = .p r.py := by
        have := List.mem_of_getElem? hd
        simpa using this
      subst ed
      unfold allowV
      simp only [gNm_ap, WE_ok, List.set_cons_succ, List.set_cons_zero]
      by_cases hB : r ∈ B
      · rw [if_pos hB]
        simp -implicitDefEqProofs only [WE_ok, WE_bind, WE_ite, WE_no, WS_nx, WS_rt, WS_bk, WS_ct, WS_lift, WS_seq, WS_ite, oRs_some, eVar_ap, eC_ap, eBin_ap, isB_bl, asB_ap, bAnd_ap, bOr_ap, bNot_ap, bTru_ap, eAnd_wp, eOr_wp, eNot_wp, andR_bl, orR_bl, notR_bl, decide_eq_true_eq, gAny_lst, gAll_lst, gSum_lst, chkOf_p, lItems_lst, eNeg_ap, eIf_ap, aNil_ap, aCons_ap, eTup_ap, eLst_ap, eLstO_ap, eB_ap, eCall_ap, eMth_ap, eIsi_ap, eSl_ap, oNone_ap, oSome_ap, eLc_ap, sSeq_ap, sNil_ap, sBrk_ap, sCnt_ap, sExpr_ap, rtO_some, sRetR_ap, sRetN_ap, sIf_ap, sSet_ap, nxG_ok, sAsg_ap, sAug_ap, gNm_ap, sFor_ap, iRgA_ap, iRgB_ap, iTpl_ap, iLst_ap, restD_p', restAll_nil, restAll_cons, gAdd_int, gAdd_str, gAdd_tup, gAdd_lst, gAddI_int, gSub_int, gMul_int, gMod_int, gFdv_int, gPow_int, gLt_int, gLe_int, gGt_int, gGe_int, gEq_int, gEq_str, gEq_bl, atI_nat', atI_0, atI_1, atI_2, atI_3, atI_4, atI_5, gIx_tup, gIx_lst, gIx_scr, gIx_ob, obL_lst, obL_fz, gLen_tup, gLen_lst, gLen_scr, gLen_ob, gToInt_int, gToInt_bl, gToStr_int, truD_bl, gMin2_int, gMax2_int, isLst_ob, isLst_lst, obO_lst, oLst_ob, appO_some, gApp_ap, gSetL_ap, okE_some, setL_ob, ixN_0, ixN_1, sizeLine_val, rngL_length, List.set_cons_zero, List.set_cons_succ, List.getElem?_cons_zero, List.getElem?_cons_succ, Option.join_some, Option.map_some, Option.bind_some, List.length_cons, List.length_nil, Option.isSome_some, if_true, if_false, Bool.false_eq_true, Bool.false_xor, Bool.true_xor, and_self, Nat.reduceAdd, Nat.reduceLeDiff, reduceIte, List.append_nil, Bool.not_true, Bool.not_false, bYes_ap, gIsN_ap, isNoneD_int, isNoneD_none, Bool.not_not, w1, gInT_rg, hB, decide_true]
        all_goals exact ⟨by trivial, by trivial⟩
      rw [if_neg hB]
      refine WS_cut (fun ρ S3 => S3 = S2 ∧ ρ = [some (.p (.tuple (Ps.map Pt.py))), some (.p (.list [r.py])), some (.p (wishD F B)), some (.p r.py), v4]) ?_ ?_
      · simp -implicitDefEqProofs only [WE_ok, WE_bind, WE_ite, WE_no, WS_nx, WS_rt, WS_bk, WS_ct, WS_lift, WS_seq, WS_ite, oRs_some, eVar_ap, eC_ap, eBin_ap, isB_bl, asB_ap, bAnd_ap, bOr_ap, bNot_ap, bTru_ap, eAnd_wp, eOr_wp, eNot_wp, andR_bl, orR_bl, notR_bl, decide_eq_true_eq, gAny_lst, gAll_lst, gSum_lst, chkOf_p, lItems_lst, eNeg_ap, eIf_ap, aNil_ap, aCons_ap, eTup_ap, eLst_ap, eLstO_ap, eB_ap, eCall_ap, eMth_ap, eIsi_ap, eSl_ap, oNone_ap, oSome_ap, eLc_ap, sSeq_ap, sNil_ap, sBrk_ap, sCnt_ap, sExpr_ap, rtO_some, sRetR_ap, sRetN_ap, sIf_ap, sSet_ap, nxG_ok, sAsg_ap, sAug_ap, gNm_ap, sFor_ap, iRgA_ap, iRgB_ap, iTpl_ap, iLst_ap, restD_p', restAll_nil, restAll_cons, gAdd_int, gAdd_str, gAdd_tup, gAdd_lst, gAddI_int, gSub_int, gMul_int, gMod_int, gFdv_int, gPow_int, gLt_int, gLe_int, gGt_int, gGe_int, gEq_int, gEq_str, gEq_bl, atI_nat', atI_0, atI_1, atI_2, atI_3, atI_4, atI_5, gIx_tup, gIx_lst, gIx_scr, gIx_ob, obL_lst, obL_fz, gLen_tup, gLen_lst, gLen_scr, gLen_ob, gToInt_int, gToInt_bl, gToStr_int, truD_bl, gMin2_int, gMax2_int, isLst_ob, isLst_lst, obO_lst, oLst_ob, appO_some, gApp_ap, gSetL_ap, okE_some, setL_ob, ixN_0, ixN_1, sizeLine_val, rngL_length, List.set_cons_zero, List.set_cons_succ, List.getElem?_cons_zero, List.getElem?_cons_succ, Option.join_some, Option.map_some, Option.bind_some, List.length_cons, List.length_nil, Option.isSome_some, if_true, if_false, Bool.false_eq_true, Bool.false_xor, Bool.true_xor, and_self, Nat.reduceAdd, Nat.reduceLeDiff, reduceIte, List.append_nil, Bool.not_true, Bool.not_false, bYes_ap, gIsN_ap, isNoneD_int, isNoneD_none, Bool.not_not, w1, gInT_rg, hB, decide_false]
        all_goals exact ⟨by trivial, by trivial⟩
      rintro ρ S3 ⟨rfl, rfl⟩
      simp -implicitDefEqProofs only [WE_ok, WE_bind, WE_ite, WE_no, WS_nx, WS_rt, WS_bk, WS_ct, WS_lift, WS_seq, WS_ite, oRs_some, eVar_ap, eC_ap, eBin_ap, isB_bl, asB_ap, bAnd_ap, bOr_ap, bNot_ap, bTru_ap, eAnd_wp, eOr_wp, eNot_wp, andR_bl, orR_bl, notR_bl, decide_eq_true_eq, gAny_lst, gAll_lst, gSum_lst, chkOf_p, lItems_lst, eNeg_ap, eIf_ap, aNil_ap, aCons_ap, eTup_ap, eLst_ap, eLstO_ap, eB_ap, eCall_ap, eMth_ap, eIsi_ap, eSl_ap, oNone_ap, oSome_ap, eLc_ap, sSeq_ap, sNil_ap, sBrk_ap, sCnt_ap, sExpr_ap, rtO_some, sRetR_ap, sRetN_ap, sIf_ap, sSet_ap, nxG_ok, sAsg_ap, sAug_ap, gNm_ap, sFor_ap, iRgA_ap, iRgB_ap, iTpl_ap, iLst_ap, restD_p', restAll_nil, restAll_cons, gAdd_int, gAdd_str, gAdd_tup, gAdd_lst, gAddI_int, gSub_int, gMul_int, gMod_int, gFdv_int, gPow_int, gLt_int, gLe_int, gGt_int, gGe_int, gEq_int, gEq_str, gEq_bl, atI_nat', atI_0, atI_1, atI_2, atI_3, atI_4, atI_5, gIx_tup, gIx_lst, gIx_scr, gIx_ob, obL_lst, obL_fz, gLen_tup, gLen_lst, gLen_scr, gLen_ob, gToInt_int, gToInt_bl, gToStr_int, truD_bl, gMin2_int, gMax2_int, isLst_ob, isLst_lst, obO_lst, oLst_ob, appO_some, gApp_ap, gSetL_ap, okE_some, setL_ob, ixN_0, ixN_1, sizeLine_val, rngL_length, List.set_cons_zero, List.set_cons_succ, List.getElem?_cons_zero, List.getElem?_cons_succ, Option.join_some, Option.map_some, Option.bind_some, List.length_cons, List.length_nil, Option.isSome_some, if_true, if_false, Bool.false_eq_true, Bool.false_xor, Bool.true_xor, and_self, Nat.reduceAdd, Nat.reduceLeDiff, reduceIte, List.append_nil, Bool.not_true, Bool.not_false, bYes_ap, gIsN_ap, isNoneD_int, isNoneD_none, Bool.not_not, gr0, List.getElem?_map, ep]
      refine lawstrip_wp hc ?_
      cases hst : pt.isStrip with
      | true =>
        simp -implicitDefEqProofs only [WE_ok, WE_bind, WE_ite, WE_no, WS_nx, WS_rt, WS_bk, WS_ct, WS_lift, WS_seq, WS_ite, oRs_some, eVar_ap, eC_ap, eBin_ap, isB_bl, asB_ap, bAnd_ap, bOr_ap, bNot_ap, bTru_ap, eAnd_wp, eOr_wp, eNot_wp, andR_bl, orR_bl, notR_bl, decide_eq_true_eq, gAny_lst, gAll_lst, gSum_lst, chkOf_p, lItems_lst, eNeg_ap, eIf_ap, aNil_ap, aCons_ap, eTup_ap, eLst_ap, eLstO_ap, eB_ap, eCall_ap, eMth_ap, eIsi_ap, eSl_ap, oNone_ap, oSome_ap, eLc_ap, sSeq_ap, sNil_ap, sBrk_ap, sCnt_ap, sExpr_ap, rtO_some, sRetR_ap, sRetN_ap, sIf_ap, sSet_ap, nxG_ok, sAsg_ap, sAug_ap, gNm_ap, sFor_ap, iRgA_ap, iRgB_ap, iTpl_ap, iLst_ap, restD_p', restAll_nil, restAll_cons, gAdd_int, gAdd_str, gAdd_tup, gAdd_lst, gAddI_int, gSub_int, gMul_int, gMod_int, gFdv_int, gPow_int, gLt_int, gLe_int, gGt_int, gGe_int, gEq_int, gEq_str, gEq_bl, atI_nat', atI_0, atI_1, atI_2, atI_3, atI_4, atI_5, gIx_tup, gIx_lst, gIx_scr, gIx_ob, obL_lst, obL_fz, gLen_tup, gLen_lst, gLen_scr, gLen_ob, gToInt_int, gToInt_bl, gToStr_int, truD_bl, gMin2_int, gMax2_int, isLst_ob, isLst_lst, obO_lst, oLst_ob, appO_some, gApp_ap, gSetL_ap, okE_some, setL_ob, ixN_0, ixN_1, sizeLine_val, rngL_length, List.set_cons_zero, List.set_cons_succ, List.getElem?_cons_zero, List.getElem?_cons_succ, Option.join_some, Option.map_some, Option.bind_some, List.length_cons, List.length_nil, Option.isSome_some, if_true, if_false, Bool.false_eq_true, Bool.false_xor, Bool.true_xor, and_self, Nat.reduceAdd, Nat.reduceLeDiff, reduceIte, List.append_nil, Bool.not_true, Bool.not_false, bYes_ap, gIsN_ap, isNoneD_int, isNoneD_none, Bool.not_not]
        exact ⟨by trivial, by trivial, fun _ => by trivial, some (.p r.py), v4, by trivial⟩
      | false =>
        rw [if_neg (by decide)]
        simp -implicitDefEqProofs only [WE_ok, WE_bind, WE_ite, WE_no, WS_nx, WS_rt, WS_bk, WS_ct, WS_lift, WS_seq, WS_ite, oRs_some, eVar_ap, eC_ap, eBin_ap, isB_bl, asB_ap, bAnd_ap, bOr_ap, bNot_ap, bTru_ap, eAnd_wp, eOr_wp, eNot_wp, andR_bl, orR_bl, notR_bl, decide_eq_true_eq, gAny_lst, gAll_lst, gSum_lst, chkOf_p, lItems_lst, eNeg_ap, eIf_ap, aNil_ap, aCons_ap, eTup_ap, eLst_ap, eLstO_ap, eB_ap, eCall_ap, eMth_ap, eIsi_ap, eSl_ap, oNone_ap, oSome_ap, eLc_ap, sSeq_ap, sNil_ap, sBrk_ap, sCnt_ap, sExpr_ap, rtO_some, sRetR_ap, sRetN_ap, sIf_ap, sSet_ap, nxG_ok, sAsg_ap, sAug_ap, gNm_ap, sFor_ap, iRgA_ap, iRgB_ap, iTpl_ap, iLst_ap, restD_p', restAll_nil, restAll_cons, gAdd_int, gAdd_str, gAdd_tup, gAdd_lst, gAddI_int, gSub_int, gMul_int, gMod_int, gFdv_int, gPow_int, gLt_int, gLe_int, gGt_int, gGe_int, gEq_int, gEq_str, gEq_bl, atI_nat', atI_0, atI_1, atI_2, atI_3, atI_4, atI_5, gIx_tup, gIx_lst, gIx_scr, gIx_ob, obL_lst, obL_fz, gLen_tup, gLen_lst, gLen_scr, gLen_ob, gToInt_int, gToInt_bl, gToStr_int, truD_bl, gMin2_int, gMax2_int, isLst_ob, isLst_lst, obO_lst, oLst_ob, appO_some, gApp_ap, gSetL_ap, okE_some, setL_ob, ixN_0, ixN_1, sizeLine_val, rngL_length, List.set_cons_zero, List.set_cons_succ, List.getElem?_cons_zero, List.getElem?_cons_succ, Option.join_some, Option.map_some, Option.bind_some, List.length_cons, List.length_nil, Option.isSome_some, if_true, if_false, Bool.false_eq_true, Bool.false_xor, Bool.true_xor, and_self, Nat.reduceAdd, Nat.reduceLeDiff, reduceIte, List.append_nil, Bool.not_true, Bool.not_false, bYes_ap, gIsN_ap, isNoneD_int, isNoneD_none, Bool.not_not, w0]
        refine WS_for (fun j ρ S2 => S2 = S3 ∧ ((F.take j).map fun o => decide (o ≠ r) && ovl r o).any id = false ∧ ∃ v4, ρ = [some (.p (.tuple (Ps.map Pt.py))), some (.p (.list [r.py])), some (.p (wishD F B)), some (.p r.py), v4]) _ 0 _ _ ⟨rfl, by simp, _, rfl⟩ ?_ ?_
        · rintro j d ρ S2 hd ⟨rfl, hno, v4, rfl⟩
          rw [List.map_map, List.getElem?_map] at hd
          cases eo : F[j]? with
          | none => rw [eo] at hd; cases hd
          | some o =>
            rw [eo] at hd
            cases hd
            have tk : F.take (0 + j + 1) = F.take (0 + j) ++ [o] := by
              rw [Nat.zero_add, List.take_succ, eo]; rfl
            have mo : o ∈ F := List.mem_of_getElem? eo
            rw [tk, List.map_append, List.any_append, hno]
            simp -implicitDefEqProofs only [WE_ok, WE_bind, WE_ite, WE_no, WS_nx, WS_rt, WS_bk, WS_ct, WS_lift, WS_seq, WS_ite, oRs_some, eVar_ap, eC_ap, eBin_ap, isB_bl, asB_ap, bAnd_ap, bOr_ap, bNot_ap, bTru_ap, eAnd_wp, eOr_wp, eNot_wp, andR_bl, orR_bl, notR_bl, decide_eq_true_eq, gAny_lst, gAll_lst, gSum_lst, chkOf_p, lItems_lst, eNeg_ap, eIf_ap, aNil_ap, aCons_ap, eTup_ap, eLst_ap, eLstO_ap, eB_ap, eCall_ap, eMth_ap, eIsi_ap, eSl_ap, oNone_ap, oSome_ap, eLc_ap, sSeq_ap, sNil_ap, sBrk_ap, sCnt_ap, sExpr_ap, rtO_some, sRetR_ap, sRetN_ap, sIf_ap, sSet_ap, nxG_ok, sAsg_ap, sAug_ap, gNm_ap, sFor_ap, iRgA_ap, iRgB_ap, iTpl_ap, iLst_ap, restD_p', restAll_nil, restAll_cons, gAdd_int, gAdd_str, gAdd_tup, gAdd_lst, gAddI_int, gSub_int, gMul_int, gMod_int, gFdv_int, gPow_int, gLt_int, gLe_int, gGt_int, gGe_int, gEq_int, gEq_str, gEq_bl, atI_nat', atI_0, atI_1, atI_2, atI_3, atI_4, atI_5, gIx_tup, gIx_lst, gIx_scr, gIx_ob, obL_lst, obL_fz, gLen_tup, gLen_lst, gLen_scr, gLen_ob, gToInt_int, gToInt_bl, gToStr_int, truD_bl, gMin2_int, gMax2_int, isLst_ob, isLst_lst, obO_lst, oLst_ob, appO_some, gApp_ap, gSetL_ap, okE_some, setL_ob, ixN_0, ixN_1, sizeLine_val, rngL_length, List.set_cons_zero, List.set_cons_succ, List.getElem?_cons_zero, List.getElem?_cons_succ, Option.join_some, Option.map_some, Option.bind_some, List.length_cons, List.length_nil, Option.isSome_some, if_true, if_false, Bool.false_eq_true, Bool.false_xor, Bool.true_xor, and_self, Nat.reduceAdd, Nat.reduceLeDiff, reduceIte, List.append_nil, Bool.not_true, Bool.not_false, bYes_ap, gIsN_ap, isNoneD_int, isNoneD_none, Bool.not_not, Function.comp_apply, gEq_rg]
            by_cases ho : o = r
            · simp -implicitDefEqProofs only [WE_ok, WE_bind, WE_ite, WE_no, WS_nx, WS_rt, WS_bk, WS_ct, WS_lift, WS_seq, WS_ite, oRs_some, eVar_ap, eC_ap, eBin_ap, isB_bl, asB_ap, bAnd_ap, bOr_ap, bNot_ap, bTru_ap, eAnd_wp, eOr_wp, eNot_wp, andR_bl, orR_bl, notR_bl, decide_eq_true_eq, gAny_lst, gAll_lst, gSum_lst, chkOf_p, lItems_lst, eNeg_ap, eIf_ap, aNil_ap, aCons_ap, eTup_ap, eLst_ap, eLstO_ap, eB_ap, eCall_ap, eMth_ap, eIsi_ap, eSl_ap, oNone_ap, oSome_ap, eLc_ap, sSeq_ap, sNil_ap, sBrk_ap, sCnt_ap, sExpr_ap, rtO_some, sRetR_ap, sRetN_ap, sIf_ap, sSet_ap, nxG_ok, sAsg_ap, sAug_ap, gNm_ap, sFor_ap, iRgA_ap, iRgB_ap, iTpl_ap, iLst_ap, restD_p', restAll_nil, restAll_cons, gAdd_int, gAdd_str, gAdd_tup, gAdd_lst, gAddI_int, gSub_int, gMul_int, gMod_int, gFdv_int, gPow_int, gLt_int, gLe_int, gGt_int, gGe_int, gEq_int, gEq_str, gEq_bl, atI_nat', atI_0, atI_1, atI_2, atI_3, atI_4, atI_5, gIx_tup, gIx_lst, gIx_scr, gIx_ob, obL_lst, obL_fz, gLen_tup, gLen_lst, gLen_scr, gLen_ob, gToInt_int, gToInt_bl, gToStr_int, truD_bl, gMin2_int, gMax2_int, isLst_ob, isLst_lst, obO_lst, oLst_ob, appO_some, gApp_ap, gSetL_ap, okE_some, setL_ob, ixN_0, ixN_1, sizeLine_val, rngL_length, List.set_cons_zero, List.set_cons_succ, List.getElem?_cons_zero, List.getElem?_cons_succ, Option.join_some, Option.map_some, Option.bind_some, List.length_cons, List.length_nil, Option.isSome_some, if_true, if_false, Bool.false_eq_true, Bool.false_xor, Bool.true_xor, and_self, Nat.reduceAdd, Nat.reduceLeDiff, reduceIte, List.append_nil, Bool.not_true, Bool.not_false, bYes_ap, gIsN_ap, isNoneD_int, isNoneD_none, Bool.not_not, ho, decide_true]
              exact ⟨by trivial, by trivial, by simp [ho], _, rfl⟩
            · simp -implicitDefEqProofs only [WE_ok, WE_bind, WE_ite, WE_no, WS_nx, WS_rt, WS_bk, WS_ct, WS_lift, WS_seq, WS_ite, oRs_some, eVar_ap, eC_ap, eBin_ap, isB_bl, asB_ap, bAnd_ap, bOr_ap, bNot_ap, bTru_ap, eAnd_wp, eOr_wp, eNot_wp, andR_bl, orR_bl, notR_bl, decide_eq_true_eq, gAny_lst, gAll_lst, gSum_lst, chkOf_p, lItems_lst, eNeg_ap, eIf_ap, aNil_ap, aCons_ap, eTup_ap, eLst_ap, eLstO_ap, eB_ap, eCall_ap, eMth_ap, eIsi_ap, eSl_ap, oNone_ap, oSome_ap, eLc_ap, sSeq_ap, sNil_ap, sBrk_ap, sCnt_ap, sExpr_ap, rtO_some, sRetR_ap, sRetN_ap, sIf_ap, sSet_ap, nxG_ok, sAsg_ap, sAug_ap, gNm_ap, sFor_ap, iRgA_ap, iRgB_ap, iTpl_ap, iLst_ap, restD_p', restAll_nil, restAll_cons, gAdd_int, gAdd_str, gAdd_tup, gAdd_lst, gAddI_int, gSub_int, gMul_int, gMod_int, gFdv_int, gPow_int, gLt_int, gLe_int, gGt_int, gGe_int, gEq_int, gEq_str, gEq_bl, atI_nat', atI_0, atI_1, atI_2, atI_3, atI_4, atI_5, gIx_tup, gIx_lst, gIx_scr, gIx_ob, obL_lst, obL_fz, gLen_tup, gLen_lst, gLen_scr, gLen_ob, gToInt_int, gToInt_bl, gToStr_int, truD_bl, gMin2_int, gMax2_int, isLst_ob, isLst_lst, obO_lst, oLst_ob, appO_some, gApp_ap, gSetL_ap, okE_some, setL_ob, ixN_0, ixN_1, sizeLine_val, rngL_length, List.set_cons_zero, List.set_cons_succ, List.getElem?_cons_zero, List.getElem?_cons_succ, Option.join_some, Option.map_some, Option.bind_some, List.length_cons, List.length_nil, Option.isSome_some, if_true, if_false, Bool.false_eq_true, Bool.false_xor, Bool.true_xor, and_self, Nat.reduceAdd, Nat.reduceLeDiff, reduceIte, List.append_nil, Bool.not_true, Bool.not_false, bYes_ap, gIsN_ap, isNoneD_int, isNoneD_none, Bool.not_not, ho, decide_false]
              refine meets_wp hc ?_
              cases hv : ovl r o with
              | true =>
                simp -implicitDefEqProofs only [WE_ok, WE_bind, WE_ite, WE_no, WS_nx, WS_rt, WS_bk, WS_ct, WS_lift, WS_seq, WS_ite, oRs_some, eVar_ap, eC_ap, eBin_ap, isB_bl, asB_ap, bAnd_ap, bOr_ap, bNot_ap, bTru_ap, eAnd_wp, eOr_wp, eNot_wp, andR_bl, orR_bl, notR_bl, decide_eq_true_eq, gAny_lst, gAll_lst, gSum_lst, chkOf_p, lItems_lst, eNeg_ap, eIf_ap, aNil_ap, aCons_ap, eTup_ap, eLst_ap, eLstO_ap, eB_ap, eCall_ap, eMth_ap, eIsi_ap, eSl_ap, oNone_ap, oSome_ap, eLc_ap, sSeq_ap, sNil_ap, sBrk_ap, sCnt_ap, sExpr_ap, rtO_some, sRetR_ap, sRetN_ap, sIf_ap, sSet_ap, nxG_ok, sAsg_ap, sAug_ap, gNm_ap, sFor_ap, iRgA_ap, iRgB_ap, iTpl_ap, iLst_ap, restD_p', restAll_nil, restAll_cons, gAdd_int, gAdd_str, gAdd_tup, gAdd_lst, gAddI_int, gSub_int, gMul_int, gMod_int, gFdv_int, gPow_int, gLt_int, gLe_int, gGt_int, gGe_int, gEq_int, gEq_str, gEq_bl, atI_nat', atI_0, atI_1, atI_2, atI_3, atI_4, atI_5, gIx_tup, gIx_lst, gIx_scr, gIx_ob, obL_lst, obL_fz, gLen_tup, gLen_lst, gLen_scr, gLen_ob, gToInt_int, gToInt_bl, gToStr_int, truD_bl, gMin2_int, gMax2_int, isLst_ob, isLst_lst, obO_lst, oLst_ob, appO_some, gApp_ap, gSetL_ap, okE_some, setL_ob, ixN_0, ixN_1, sizeLine_val, rngL_length, List.set_cons_zero, List.set_cons_succ, List.getElem?_cons_zero, List.getElem?_cons_succ, Option.join_some, Option.map_some, Option.bind_some, List.length_cons, List.length_nil, Option.isSome_some, if_true, if_false, Bool.false_eq_true, Bool.false_xor, Bool.true_xor, and_self, Nat.reduceAdd, Nat.reduceLeDiff, reduceIte, List.append_nil, Bool.not_true, Bool.not_false, bYes_ap, gIsN_ap, isNoneD_int, isNoneD_none, Bool.not_not]
                refine ⟨?_, by trivial⟩
                have : (F.map fun o => decide (o ≠ r) && ovl r o).any id = true := by
                  rw [List.any_eq_true]
                  exact ⟨true, List.mem_map.mpr ⟨o, mo, by simp [ho, hv]⟩, rfl⟩
                rw [this]
                rfl
              | false =>
                simp -implicitDefEqProofs only [WE_ok, WE_bind, WE_ite, WE_no, WS_nx, WS_rt, WS_bk, WS_ct, WS_lift, WS_seq, WS_ite, oRs_some, eVar_ap, eC_ap, eBin_ap, isB_bl, asB_ap, bAnd_ap, bOr_ap, bNot_ap, bTru_ap, eAnd_wp, eOr_wp, eNot_wp, andR_bl, orR_bl, notR_bl, decide_eq_true_eq, gAny_lst, gAll_lst, gSum_lst, chkOf_p, lItems_lst, eNeg_ap, eIf_ap, aNil_ap, aCons_ap, eTup_ap, eLst_ap, eLstO_ap, eB_ap, eCall_ap, eMth_ap, eIsi_ap, eSl_ap, oNone_ap, oSome_ap, eLc_ap, sSeq_ap, sNil_ap, sBrk_ap, sCnt_ap, sExpr_ap, rtO_some, sRetR_ap, sRetN_ap, sIf_ap, sSet_ap, nxG_ok, sAsg_ap, sAug_ap, gNm_ap, sFor_ap, iRgA_ap, iRgB_ap, iTpl_ap, iLst_ap, restD_p', restAll_nil, restAll_cons, gAdd_int, gAdd_str, gAdd_tup, gAdd_lst, gAddI_int, gSub_int, gMul_int, gMod_int, gFdv_int, gPow_int, gLt_int, gLe_int, gGt_int, gGe_int, gEq_int, gEq_str, gEq_bl, atI_nat', atI_0, atI_1, atI_2, atI_3, atI_4, atI_5, gIx_tup, gIx_lst, gIx_scr, gIx_ob, obL_lst, obL_fz, gLen_tup, gLen_lst, gLen_scr, gLen_ob, gToInt_int, gToInt_bl, gToStr_int, truD_bl, gMin2_int, gMax2_int, isLst_ob, isLst_lst, obO_lst, oLst_ob, appO_some, gApp_ap, gSetL_ap, okE_some, setL_ob, ixN_0, ixN_1, sizeLine_val, rngL_length, List.set_cons_zero, List.set_cons_succ, List.getElem?_cons_zero, List.getElem?_cons_succ, Option.join_some, Option.map_some, Option.bind_some, List.length_cons, List.length_nil, Option.isSome_some, if_true, if_false, Bool.false_eq_true, Bool.false_xor, Bool.true_xor, and_self, Nat.reduceAdd, Nat.reduceLeDiff, reduceIte, List.append_nil, Bool.not_true, Bool.not_false, bYes_ap, gIsN_ap, isNoneD_int, isNoneD_none, Bool.not_not]
                exact ⟨by trivial, by trivial, by simp [ho, hv], _, rfl⟩
        · rintro ρ S2 ⟨rfl, hno, v4, rfl⟩
          rw [List.length_map, List.length_map, Nat.zero_add, List.take_length] at hno
          refine ⟨by trivial, by trivial, fun _ => ?_, _, _, rfl⟩
          rw [hno]
          rfl
    · rintro ρ S2 ⟨rfl, h1, v3, v4, rfl⟩
      exact ⟨rfl, h1 rfl⟩
  rintro ρ S1 ⟨rfl, h1⟩
  rw [h1]
  simp -implicitDefEqProofs only [WE_ok, WE_bind, WE_ite, WE_no, WS_nx, WS_rt, WS_bk, WS_ct, WS_lift, WS_seq, WS_ite, oRs_some, eVar_ap, eC_ap, eBin_ap, isB_bl, asB_ap, bAnd_ap, bOr_ap, bNot_ap, bTru_ap, eAnd_wp, eOr_wp, eNot_wp, andR_bl, orR_bl, notR_bl, decide_eq_true_eq, gAny_lst, gAll_lst, gSum_lst, chkOf_p, lItems_lst, eNeg_ap, eIf_ap, aNil_ap, aCons_ap, eTup_ap, eLst_ap, eLstO_ap, eB_ap, eCall_ap, eMth_ap, eIsi_ap, eSl_ap, oNone_ap, oSome_ap, eLc_ap, sSeq_ap, sNil_ap, sBrk_ap, sCnt_ap, sExpr_ap, rtO_some, sRetR_ap, sRetN_ap, sIf_ap, sSet_ap, nxG_ok, sAsg_ap, sAug_ap, gNm_ap, sFor_ap, iRgA_ap, iRgB_ap, iTpl_ap, iLst_ap, restD_p', restAll_nil, restAll_cons, gAdd_int, gAdd_str, gAdd_tup, gAdd_lst, gAddI_int, gSub_int, gMul_int, gMod_int, gFdv_int, gPow_int, gLt_int, gLe_int, gGt_int, gGe_int, gEq_int, gEq_str, gEq_bl, atI_nat', atI_0, atI_1, atI_2, atI_3, atI_4, atI_5, gIx_tup, gIx_lst, gIx_scr, gIx_ob, obL_lst, obL_fz, gLen_tup, gLen_lst, gLen_scr, gLen_ob, gToInt_int, gToInt_bl, gToStr_int, truD_bl, gMin2_int, gMax2_int, isLst_ob, isLst_lst, obO_lst, oLst_ob, appO_some, gApp_ap, gSetL_ap, okE_some, setL_ob, ixN_0, ixN_1, sizeLine_val, rngL_length, List.set_cons_zero, List.set_cons_succ, List.getElem?_cons_zero, List.getElem?_cons_succ, Option.join_some, Option.map_some, Option.bind_some, List.length_cons, List.length_nil, Option.isSome_some, if_true, if_false, Bool.false_eq_true, Bool.false_xor, Bool.true_xor, and_self, Nat.reduceAdd, Nat.reduceLeDiff, reduceIte, List.append_nil, Bool.not_true, Bool.not_false, bYes_ap, gIsN_ap, isNoneD_int, isNoneD_none, Bool.not_not]
  all_goals exact ⟨by trivial, by trivial⟩
theorem region_wp {Ps : List Pt} {pg : Rg} (hs : S[n]? = some b) (hb : IsBox b) (hc : ClS 0 S) (hg : ∀ p ∈ Ps, p.g16) (h1 : 1 ≤ Ps.length) (hw : 1 ≤ pg.w) (hh : 1 ≤ pg.h)
    (q : ∀ b' r, IsBox b' → Rg.p r < Ps.length → pg.x ≤ r.x → r.x + r.w ≤ pg.x + pg.w → pg.y ≤ r.y → r.y + r.h ≤ pg.y + pg.h → 1 ≤ r.w → 1 ≤ r.h → Q (.p r.py) (S.set n b')) : WE (G_law_region [.ob n, .p (.tuple (Ps.map Pt.py)), .p pg.py] S) Q E := by
  have hl : n < S.length := (List.getElem?_eq_some_iff.mp hs).1
  refine WE_def (fun d S' => ∃ b' r, IsBox b' ∧ Rg.p r < Ps.length ∧ (pg.x ≤ r.x ∧ r.x + r.w ≤ pg.x + pg.w ∧ pg.y ≤ r.y ∧ r.y + r.h ≤ pg.y + pg.h ∧ 1 ≤ r.w ∧ 1 ≤ r.h) ∧ d = .p r.py ∧ S' = S.set n b') ?_ (fun d S' ⟨b', r, hb', hr, ⟨z1, z2, z3, z4, z5, z6⟩, e1, e2⟩ => ⟨_, S.set n b', [], e1, by rw [e2, List.append_nil], by simp, clS_set hc hb'.cl, q b' r hb' hr z1 z2 z3 z4 z5 z6⟩)
  rw [show start0 NN_law_region [.ob n, .p (.tuple (Ps.map Pt.py)), .p pg.py] = [some (.ob n), some (.p (.tuple (Ps.map Pt.py))), some (.p pg.py), none, none, none, none, none, none] from rfl]
  unfold B_law_region
  refine WS_cut (fun ρ S1 => ∃ b' k, IsBox b' ∧ k < Ps.length ∧ S1 = S.set n b' ∧ ρ = [some (.ob n), some (.p (.tuple (Ps.map Pt.py))), some (.p pg.py), some (.int (k : Nat)), none, none, none, none, none]) ?_ ?_
  · simp -implicitDefEqProofs only [WE_ok, WE_bind, WE_ite, WE_no, WS_nx, WS_rt, WS_bk, WS_ct, WS_lift, WS_seq, WS_ite, oRs_some, eVar_ap, eC_ap, eBin_ap, isB_bl, asB_ap, bAnd_ap, bOr_ap, bNot_ap, bTru_ap, eAnd_wp, eOr_wp, eNot_wp, andR_bl, orR_bl, notR_bl, decide_eq_true_eq, gAny_lst, gAll_lst, gSum_lst, chkOf_p, lItems_lst, eNeg_ap, eIf_ap, aNil_ap, aCons_ap, eTup_ap, eLst_ap, eLstO_ap, eB_ap, eCall_ap, eMth_ap, eIsi_ap, eSl_ap, oNone_ap, oSome_ap, eLc_ap, sSeq_ap, sNil_ap, sBrk_ap, sCnt_ap, sExpr_ap, rtO_some, sRetR_ap, sRetN_ap, sIf_ap, sSet_ap, nxG_ok, sAsg_ap, sAug_ap, gNm_ap, sFor_ap, iRgA_ap, iRgB_ap, iTpl_ap, iLst_ap, restD_p', restAll_nil, restAll_cons, gAdd_int, gAdd_str, gAdd_tup, gAdd_lst, gAddI_int, gSub_int, gMul_int, gMod_int, gFdv_int, gPow_int, gLt_int, gLe_int, gGt_int, gGe_int, gEq_int, gEq_str, gEq_bl, atI_nat', atI_0, atI_1, atI_2, atI_3, atI_4, atI_5, gIx_tup, gIx_lst, gIx_scr, gIx_ob, obL_lst, obL_fz, gLen_tup, gLen_lst, gLen_scr, gLen_ob, gToInt_int, gToInt_bl, gToStr_int, truD_bl, gMin2_int, gMax2_int, isLst_ob, isLst_lst, obO_lst, oLst_ob, appO_some, gApp_ap, gSetL_ap, okE_some, setL_ob, ixN_0, ixN_1, sizeLine_val, rngL_length, List.set_cons_zero, List.set_cons_succ, List.getElem?_cons_zero, List.getElem?_cons_succ, Option.join_some, Option.map_some, Option.bind_some, List.length_cons, List.length_nil, Option.isSome_some, if_true, if_false, Bool.false_eq_true, Bool.false_xor, Bool.true_xor, and_self, Nat.reduceAdd, Nat.reduceLeDiff, reduceIte, List.append_nil, Bool.not_true, Bool.not_false, bYes_ap, gIsN_ap, isNoneD_int, isNoneD_none, Bool.not_not]
    refine draw_wp hs hb (by decide) hc fun v b1 h0 h1' hb1 => ?_
    obtain ⟨v, rfl⟩ := Int.eq_ofNat_of_zero_le h0
    simp -implicitDefEqProofs only [WE_ok, WE_bind, WE_ite, WE_no, WS_nx, WS_rt, WS_bk, WS_ct, WS_lift, WS_seq, WS_ite, oRs_some, eVar_ap, eC_ap, eBin_ap, isB_bl, asB_ap, bAnd_ap, bOr_ap, bNot_ap, bTru_ap, eAnd_wp, eOr_wp, eNot_wp, andR_bl, orR_bl, notR_bl, decide_eq_true_eq, gAny_lst, gAll_lst, gSum_lst, chkOf_p, lItems_lst, eNeg_ap, eIf_ap, aNil_ap, aCons_ap, eTup_ap, eLst_ap, eLstO_ap, eB_ap, eCall_ap, eMth_ap, eIsi_ap, eSl_ap, oNone_ap, oSome_ap, eLc_ap, sSeq_ap, sNil_ap, sBrk_ap, sCnt_ap, sExpr_ap, rtO_some, sRetR_ap, sRetN_ap, sIf_ap, sSet_ap, nxG_ok, sAsg_ap, sAug_ap, gNm_ap, sFor_ap, iRgA_ap, iRgB_ap, iTpl_ap, iLst_ap, restD_p', restAll_nil, restAll_cons, gAdd_int, gAdd_str, gAdd_tup, gAdd_lst, gAddI_int, gSub_int, gMul_int, gMod_int, gFdv_int, gPow_int, gLt_int, gLe_int, gGt_int, gGe_int, gEq_int, gEq_str, gEq_bl, atI_nat', atI_0, atI_1, atI_2, atI_3, atI_4, atI_5, gIx_tup, gIx_lst, gIx_scr, gIx_ob, obL_lst, obL_fz, gLen_tup, gLen_lst, gLen_scr, gLen_ob, gToInt_int, gToInt_bl, gToStr_int, truD_bl, gMin2_int, gMax2_int, isLst_ob, isLst_lst, obO_lst, oLst_ob, appO_some, gApp_ap, gSetL_ap, okE_some, setL_ob, ixN_0, ixN_1, sizeLine_val, rngL_length, List.set_cons_zero, List.set_cons_succ, List.getElem?_cons_zero, List.getElem?_cons_succ, Option.join_some, Option.map_some, Option.bind_some, List.length_cons, List.length_nil, Option.isSome_some, if_true, if_false, Bool.false_eq_true, Bool.false_xor, Bool.true_xor, and_self, Nat.reduceAdd, Nat.reduceLeDiff, reduceIte, List.append_nil, Bool.not_true, Bool.not_false, bYes_ap, gIsN_ap, isNoneD_int, isNoneD_none, Bool.not_not, List.length_map]
    rw [if_pos (by omega)]
    exact ⟨b1, v % Ps.length, hb1, Nat.mod_lt _ (by omega), by trivial, by simp⟩
  rintro ρ S1 ⟨b1, k, hb1, hk, rfl, rfl⟩
  refine WS_cut (fun ρ S1 => ∃ b' x, IsBox b' ∧ x < pg.w ∧ S1 = S.set n b' ∧ ρ = [some (.ob n), some (.p (.tuple (Ps.map Pt.py))), some (.p pg.py), some (.int (k : Nat)), some (.int (x : Nat)), none, none, none, none]) ?_ ?_
  · simp -implicitDefEqProofs only [WE_ok, WE_bind, WE_ite, WE_no, WS_nx, WS_rt, WS_bk, WS_ct, WS_lift, WS_seq, WS_ite, oRs_some, eVar_ap, eC_ap, eBin_ap, isB_bl, asB_ap, bAnd_ap, bOr_ap, bNot_ap, bTru_ap, eAnd_wp, eOr_wp, eNot_wp, andR_bl, orR_bl, notR_bl, decide_eq_true_eq, gAny_lst, gAll_lst, gSum_lst, chkOf_p, lItems_lst, eNeg_ap, eIf_ap, aNil_ap, aCons_ap, eTup_ap, eLst_ap, eLstO_ap, eB_ap, eCall_ap, eMth_ap, eIsi_ap, eSl_ap, oNone_ap, oSome_ap, eLc_ap, sSeq_ap, sNil_ap, sBrk_ap, sCnt_ap, sExpr_ap, rtO_some, sRetR_ap, sRetN_ap, sIf_ap, sSet_ap, nxG_ok, sAsg_ap, sAug_ap, gNm_ap, sFor_ap, iRgA_ap, iRgB_ap, iTpl_ap, iLst_ap, restD_p', restAll_nil, restAll_cons, gAdd_int, gAdd_str, gAdd_tup, gAdd_lst, gAddI_int, gSub_int, gMul_int, gMod_int, gFdv_int, gPow_int, gLt_int, gLe_int, gGt_int, gGe_int, gEq_int, gEq_str, gEq_bl, atI_nat', atI_0, atI_1, atI_2, atI_3, atI_4, atI_5, gIx_tup, gIx_lst, gIx_scr, gIx_ob, obL_lst, obL_fz, gLen_tup, gLen_lst, gLen_scr, gLen_ob, gToInt_int, gToInt_bl, gToStr_int, truD_bl, gMin2_int, gMax2_int, isLst_ob, isLst_lst, obO_lst, oLst_ob, appO_some, gApp_ap, gSetL_ap, okE_some, setL_ob, ixN_0, ixN_1, sizeLine_val, rngL_length, List.set_cons_zero, List.set_cons_succ, List.getElem?_cons_zero, List.getElem?_cons_succ, Option.join_some, Option.map_some, Option.bind_some, List.length_cons, List.length_nil, Option.isSome_some, if_true, if_false, Bool.false_eq_true, Bool.false_xor, Bool.true_xor, and_self, Nat.reduceAdd, Nat.reduceLeDiff, reduceIte, List.append_nil, Bool.not_true, Bool.not_false, bYes_ap, gIsN_ap, isNoneD_int, isNoneD_none, Bool.not_not, gr3]
    refine draw_wp (set_get hl) hb1 (by omega) (clS_set hc hb1.cl) fun v b2 h0 h1' hb2 => ?_
    obtain ⟨v, rfl⟩ := Int.eq_ofNat_of_zero_le h0
    try simp -implicitDefEqProofs only [WE_ok, WE_bind, WE_ite, WE_no, WS_nx, WS_rt, WS_bk, WS_ct, WS_lift, WS_seq, WS_ite, oRs_some, eVar_ap, eC_ap, eBin_ap, isB_bl, asB_ap, bAnd_ap, bOr_ap, bNot_ap, bTru_ap, eAnd_wp, eOr_wp, eNot_wp, andR_bl, orR_bl, notR_bl, decide_eq_true_eq, gAny_lst, gAll_lst, gSum_lst, chkOf_p, lItems_lst, eNeg_ap, eIf_ap, aNil_ap, aCons_ap, eTup_ap, eLst_ap, eLstO_ap, eB_ap, eCall_ap, eMth_ap, eIsi_ap, eSl_ap, oNone_ap, oSome_ap, eLc_ap, sSeq_ap, sNil_ap, sBrk_ap, sCnt_ap, sExpr_ap, rtO_some, sRetR_ap, sRetN_ap, sIf_ap, sSet_ap, nxG_ok, sAsg_ap, sAug_ap, gNm_ap, sFor_ap, iRgA_ap, iRgB_ap, iTpl_ap, iLst_ap, restD_p', restAll_nil, restAll_cons, gAdd_int, gAdd_str, gAdd_tup, gAdd_lst, gAddI_int, gSub_int, gMul_int, gMod_int, gFdv_int, gPow_int, gLt_int, gLe_int, gGt_int, gGe_int, gEq_int, gEq_str, gEq_bl, atI_nat', atI_0, atI_1, atI_2, atI_3, atI_4, atI_5, gIx_tup, gIx_lst, gIx_scr, gIx_ob, obL_lst, obL_fz, gLen_tup, gLen_lst, gLen_scr, gLen_ob, gToInt_int, gToInt_bl, gToStr_int, truD_bl, gMin2_int, gMax2_int, isLst_ob, isLst_lst, obO_lst, oLst_ob, appO_some, gApp_ap, gSetL_ap, okE_some, setL_ob, ixN_0, ixN_1, sizeLine_val, rngL_length, List.set_cons_zero, List.set_cons_succ, List.getElem?_cons_zero, List.getElem?_cons_succ, Option.join_some, Option.map_some, Option.bind_some, List.length_cons, List.length_nil, Option.isSome_some, if_true, if_false, Bool.false_eq_true, Bool.false_xor, Bool.true_xor, and_self, Nat.reduceAdd, Nat.reduceLeDiff, reduceIte, List.append_nil, Bool.not_true, Bool.not_false, bYes_ap, gIsN_ap, isNoneD_int, isNoneD_none, Bool.not_not, List.set_set]
    exact ⟨b2, v, hb2, by omega, by simp, by trivial⟩
  rintro ρ S1 ⟨b2, x, hb2, hx, rfl, rfl⟩
  refine WS_cut (fun ρ S1 => ∃ b' y, IsBox b' ∧ y < pg.h ∧ S1 = S.set n b' ∧ ρ = [some (.ob n), some (.p (.tuple (Ps.map Pt.py))), some (.p pg.py), some (.int (k : Nat)), some (.int (x : Nat)), some (.int (y : Nat)), none, none, none]) ?_ ?_
  · simp -implicitDefEqProofs only [WE_ok, WE_bind, WE_ite, WE_no, WS_nx, WS_rt, WS_bk, WS_ct, WS_lift, WS_seq, WS_ite, oRs_some, eVar_ap, eC_ap, eBin_ap, isB_bl, asB_ap, bAnd_ap, bOr_ap, bNot_ap, bTru_ap, eAnd_wp, eOr_wp, eNot_wp, andR_bl, orR_bl, notR_bl, decide_eq_true_eq, gAny_lst, gAll_lst, gSum_lst, chkOf_p, lItems_lst, eNeg_ap, eIf_ap, aNil_ap, aCons_ap, eTup_ap, eLst_ap, eLstO_ap, eB_ap, eCall_ap, eMth_ap, eIsi_ap, eSl_ap, oNone_ap, oSome_ap, eLc_ap, sSeq_ap, sNil_ap, sBrk_ap, sCnt_ap, sExpr_ap, rtO_some, sRetR_ap, sRetN_ap, sIf_ap, sSet_ap, nxG_ok, sAsg_ap, sAug_ap, gNm_ap, sFor_ap, iRgA_ap, iRgB_ap, iTpl_ap, iLst_ap, restD_p', restAll_nil, restAll_cons, gAdd_int, gAdd_str, gAdd_tup, gAdd_lst, gAddI_int, gSub_int, gMul_int, gMod_int, gFdv_int, gPow_int, gLt_int, gLe_int, gGt_int, gGe_int, gEq_int, gEq_str, gEq_bl, atI_nat', atI_0, atI_1, atI_2, atI_3, atI_4, atI_5, gIx_tup, gIx_lst, gIx_scr, gIx_ob, obL_lst, obL_fz, gLen_tup, gLen_lst, gLen_scr, gLen_ob, gToInt_int, gToInt_bl, gToStr_int, truD_bl, gMin2_int, gMax2_int, isLst_ob, isLst_lst, obO_lst, oLst_ob, appO_some, gApp_ap, gSetL_ap, okE_some, setL_ob, ixN_0, ixN_1, sizeLine_val, rngL_length, List.set_cons_zero, List.set_cons_succ, List.getElem?_cons_zero, List.getElem?_cons_succ, Option.join_some, Option.map_some, Option.bind_some, List.length_cons, List.length_nil, Option.isSome_some, if_true, if_false, Bool.false_eq_true, Bool.false_xor, Bool.true_xor, and_self, Nat.reduceAdd, Nat.reduceLeDiff, reduceIte, List.append_nil, Bool.not_true, Bool.not_false, bYes_ap, gIsN_ap, isNoneD_int, isNoneD_none, Bool.not_not, gr4]
    refine draw_wp (set_get hl) hb2 (by omega) (clS_set hc hb2.cl) fun v b3 h0 h1' hb3 => ?_
    obtain ⟨v, rfl⟩ := Int.eq_ofNat_of_zero_le h0
    try simp -implicitDefEqProofs only [WE_ok, WE_bind, WE_ite, WE_no, WS_nx, WS_rt, WS_bk, WS_ct, WS_lift, WS_seq, WS_ite, oRs_some, eVar_ap, eC_ap, eBin_ap, isB_bl, asB_ap, bAnd_ap, bOr_ap, bNot_ap, bTru_ap, eAnd_wp, eOr_wp, eNot_wp, andR_bl, orR_bl, notR_bl, decide_eq_true_eq, gAny_lst, gAll_lst, gSum_lst, chkOf_p, lItems_lst, eNeg_ap, eIf_ap, aNil_ap, aCons_ap, eTup_ap, eLst_ap, eLstO_ap, eB_ap, eCall_ap, eMth_ap, eIsi_ap, eSl_ap, oNone_ap, oSome_ap, eLc_ap, sSeq_ap, sNil_ap, sBrk_ap, sCnt_ap, sExpr_ap, rtO_some, sRetR_ap, sRetN_ap, sIf_ap, sSet_ap, nxG_ok, sAsg_ap, sAug_ap, gNm_ap, sFor_ap, iRgA_ap, iRgB_ap, iTpl_ap, iLst_ap, restD_p', restAll_nil, restAll_cons, gAdd_int, gAdd_str, gAdd_tup, gAdd_lst, gAddI_int, gSub_int, gMul_int, gMod_int, gFdv_int, gPow_int, gLt_int, gLe_int, gGt_int, gGe_int, gEq_int, gEq_str, gEq_bl, atI_nat', atI_0, atI_1, atI_2, atI_3, atI_4, atI_5, gIx_tup, gIx_lst, gIx_scr, gIx_ob, obL_lst, obL_fz, gLen_tup, gLen_lst, gLen_scr, gLen_ob, gToInt_int, gToInt_bl, gToStr_int, truD_bl, gMin2_int, gMax2_int, isLst_ob, isLst_lst, obO_lst, oLst_ob, appO_some, gApp_ap, gSetL_ap, okE_some, setL_ob, ixN_0, ixN_1, sizeLine_val, rngL_length, List.set_cons_zero, List.set_cons_succ, List.getElem?_cons_zero, List.getElem?_cons_succ, Option.join_some, Option.map_some, Option.bind_some, List.length_cons, List.length_nil, Option.isSome_some, if_true, if_false, Bool.false_eq_true, Bool.false_xor, Bool.true_xor, and_self, Nat.reduceAdd, Nat.reduceLeDiff, reduceIte, List.append_nil, Bool.not_true, Bool.not_false, bYes_ap, gIsN_ap, isNoneD_int, isNoneD_none, Bool.not_not, List.set_set]
    exact ⟨b3, v, hb3, by omega, by simp, by trivial⟩
  rintro ρ S1 ⟨b3, y, hb3, hy, rfl, rfl⟩
  refine WS_cut (fun ρ S1 => ∃ b' w, IsBox b' ∧ 1 ≤ w ∧ x + w ≤ pg.w ∧ S1 = S.set n b' ∧ ρ = [some (.ob n), some (.p (.tuple (Ps.map Pt.py))), some (.p pg.py), some (.int (k : Nat)), some (.int (x : Nat)), some (.int (y : Nat)), some (.int (w : Nat)), none, none]) ?_ ?_
  · simp -implicitDefEqProofs only [WE_ok, WE_bind, WE_ite, WE_no, WS_nx, WS_rt, WS_bk, WS_ct, WS_lift, WS_seq, WS_ite, oRs_some, eVar_ap, eC_ap, eBin_ap, isB_bl, asB_ap, bAnd_ap, bOr_ap, bNot_ap, bTru_ap, eAnd_wp, eOr_wp, eNot_wp, andR_bl, orR_bl, notR_bl, decide_eq_true_eq, gAny_lst, gAll_lst, gSum_lst, chkOf_p, lItems_lst, eNeg_ap, eIf_ap, aNil_ap, aCons_ap, eTup_ap, eLst_ap, eLstO_ap, eB_ap, eCall_ap, eMth_ap, eIsi_ap, eSl_ap, oNone_ap, oSome_ap, eLc_ap, sSeq_ap, sNil_ap, sBrk_ap, sCnt_ap, sExpr_ap, rtO_some, sRetR_ap, sRetN_ap, sIf_ap, sSet_ap, nxG_ok, sAsg_ap, sAug_ap, gNm_ap, sFor_ap, iRgA_ap, iRgB_ap, iTpl_ap, iLst_ap, restD_p', restAll_nil, restAll_cons, gAdd_int, gAdd_str, gAdd_tup, gAdd_lst, gAddI_int, gSub_int, gMul_int, gMod_int, gFdv_int, gPow_int, gLt_int, gLe_int, gGt_int, gGe_int, gEq_int, gEq_str, gEq_bl, atI_nat', atI_0, atI_1, atI_2, atI_3, atI_4, atI_5, gIx_tup, gIx_lst, gIx_scr, gIx_ob, obL_lst, obL_fz, gLen_tup, gLen_lst, gLen_scr, gLen_ob, gToInt_int, gToInt_bl, gToStr_int, truD_bl, gMin2_int, gMax2_int, isLst_ob, isLst_lst, obO_lst, oLst_ob, appO_some, gApp_ap, gSetL_ap, okE_some, setL_ob, ixN_0, ixN_1, sizeLine_val, rngL_length, List.set_cons_zero, List.set_cons_succ, List.getElem?_cons_zero, List.getElem?_cons_succ, Option.join_some, Option.map_some, Option.bind_some, List.length_cons, List.length_nil, Option.isSome_some, if_true, if_false, Bool.false_eq_true, Bool.false_xor, Bool.true_xor, and_self, Nat.reduceAdd, Nat.reduceLeDiff, reduceIte, List.append_nil, Bool.not_true, Bool.not_false, bYes_ap, gIsN_ap, isNoneD_int, isNoneD_none, Bool.not_not, gr3]
    refine draw_wp (set_get hl) hb3 (by omega) (clS_set hc hb3.cl) fun v b4 h0 h1' hb4 => ?_
    obtain ⟨v, rfl⟩ := Int.eq_ofNat_of_zero_le h0
    try simp -implicitDefEqProofs only [WE_ok, WE_bind, WE_ite, WE_no, WS_nx, WS_rt, WS_bk, WS_ct, WS_lift, WS_seq, WS_ite, oRs_some, eVar_ap, eC_ap, eBin_ap, isB_bl, asB_ap, bAnd_ap, bOr_ap, bNot_ap, bTru_ap, eAnd_wp, eOr_wp, eNot_wp, andR_bl, orR_bl, notR_bl, decide_eq_true_eq, gAny_lst, gAll_lst, gSum_lst, chkOf_p, lItems_lst, eNeg_ap, eIf_ap, aNil_ap, aCons_ap, eTup_ap, eLst_ap, eLstO_ap, eB_ap, eCall_ap, eMth_ap, eIsi_ap, eSl_ap, oNone_ap, oSome_ap, eLc_ap, sSeq_ap, sNil_ap, sBrk_ap, sCnt_ap, sExpr_ap, rtO_some, sRetR_ap, sRetN_ap, sIf_ap, sSet_ap, nxG_ok, sAsg_ap, sAug_ap, gNm_ap, sFor_ap, iRgA_ap, iRgB_ap, iTpl_ap, iLst_ap, restD_p', restAll_nil, restAll_cons, gAdd_int, gAdd_str, gAdd_tup, gAdd_lst, gAddI_int, gSub_int, gMul_int, gMod_int, gFdv_int, gPow_int, gLt_int, gLe_int, gGt_int, gGe_int, gEq_int, gEq_str, gEq_bl, atI_nat', atI_0, atI_1, atI_2, atI_3, atI_4, atI_5, gIx_tup, gIx_lst, gIx_scr, gIx_ob, obL_lst, obL_fz, gLen_tup, gLen_lst, gLen_scr, gLen_ob, gToInt_int, gToInt_bl, gToStr_int, truD_bl, gMin2_int, gMax2_int, isLst_ob, isLst_lst, obO_lst, oLst_ob, appO_some, gApp_ap, gSetL_ap, okE_some, setL_ob, ixN_0, ixN_1, sizeLine_val, rngL_length, List.set_cons_zero, List.set_cons_succ, List.getElem?_cons_zero, List.getElem?_cons_succ, Option.join_some, Option.map_some, Option.bind_some, List.length_cons, List.length_nil, Option.isSome_some, if_true, if_false, Bool.false_eq_true, Bool.false_xor, Bool.true_xor, and_self, Nat.reduceAdd, Nat.reduceLeDiff, reduceIte, List.append_nil, Bool.not_true, Bool.not_false, bYes_ap, gIsN_ap, isNoneD_int, isNoneD_none, Bool.not_not, List.set_set]
    exact ⟨b4, 1 + v, hb4, by omega, by omega, by simp, by simp⟩
  rintro ρ S1 ⟨b4, w, hb4, hw1, hw2, rfl, rfl⟩
  refine WS_cut (fun ρ S1 => ∃ b' h, IsBox b' ∧ 1 ≤ h ∧ y + h ≤ pg.h ∧ S1 = S.set n b' ∧ ρ = [some (.ob n), some (.p (.tuple (Ps.map Pt.py))), some (.p pg.py), some (.int (k : Nat)), some (.int (x : Nat)), some (.int (y : Nat)), some (.int (w : Nat)), some (.int (h : Nat)), none]) ?_ ?_
  · simp -implicitDefEqProofs only [WE_ok, WE_bind, WE_ite, WE_no, WS_nx, WS_rt, WS_bk, WS_ct, WS_lift, WS_seq, WS_ite, oRs_some, eVar_ap, eC_ap, eBin_ap, isB_bl, asB_ap, bAnd_ap, bOr_ap, bNot_ap, bTru_ap, eAnd_wp, eOr_wp, eNot_wp, andR_bl, orR_bl, notR_bl, decide_eq_true_eq, gAny_lst, gAll_lst, gSum_lst, chkOf_p, lItems_lst, eNeg_ap, eIf_ap, aNil_ap, aCons_ap, eTup_ap, eLst_ap, eLstO_ap, eB_ap, eCall_ap, eMth_ap, eIsi_ap, eSl_ap, oNone_ap, oSome_ap, eLc_ap, sSeq_ap, sNil_ap, sBrk_ap, sCnt_ap, sExpr_ap, rtO_some, sRetR_ap, sRetN_ap, sIf_ap, sSet_ap, nxG_ok, sAsg_ap, sAug_ap, gNm_ap, sFor_ap, iRgA_ap, iRgB_ap, iTpl_ap, iLst_ap, restD_p', restAll_nil, restAll_cons, gAdd_int, gAdd_str, gAdd_tup, gAdd_lst, gAddI_int, gSub_int, gMul_int, gMod_int, gFdv_int, gPow_int, gLt_int, gLe_int, gGt_int, gGe_int, gEq_int, gEq_str, gEq_bl, atI_nat', atI_0, atI_1, atI_2, atI_3, atI_4, atI_5, gIx_tup, gIx_lst, gIx_scr, gIx_ob, obL_lst, obL_fz, gLen_tup, gLen_lst, gLen_scr, gLen_ob, gToInt_int, gToInt_bl, gToStr_int, truD_bl, gMin2_int, gMax2_int, isLst_ob, isLst_lst, obO_lst, oLst_ob, appO_some, gApp_ap, gSetL_ap, okE_some, setL_ob, ixN_0, ixN_1, sizeLine_val, rngL_length, List.set_cons_zero, List.set_cons_succ, List.getElem?_cons_zero, List.getElem?_cons_succ, Option.join_some, Option.map_some, Option.bind_some, List.length_cons, List.length_nil, Option.isSome_some, if_true, if_false, Bool.false_eq_true, Bool.false_xor, Bool.true_xor, and_self, Nat.reduceAdd, Nat.reduceLeDiff, reduceIte, List.append_nil, Bool.not_true, Bool.not_false, bYes_ap, gIsN_ap, isNoneD_int, isNoneD_none, Bool.not_not, gr4]
    refine draw_wp (set_get hl) hb4 (by omega) (clS_set hc hb4.cl) fun v b5 h0 h1' hb5 => ?_
    obtain ⟨v, rfl⟩ := Int.eq_ofNat_of_zero_le h0
    try simp -implicitDefEqProofs only [WE_ok, WE_bind, WE_ite, WE_no, WS_nx, WS_rt, WS_bk, WS_ct, WS_lift, WS_seq, WS_ite, oRs_some, eVar_ap, eC_ap, eBin_ap, isB_bl, asB_ap, bAnd_ap, bOr_ap, bNot_ap, bTru_ap, eAnd_wp, eOr_wp, eNot_wp, andR_bl, orR_bl, notR_bl, decide_eq_true_eq, gAny_lst, gAll_lst, gSum_lst, chkOf_p, lItems_lst, eNeg_ap, eIf_ap, aNil_ap, aCons_ap, eTup_ap, eLst_ap, eLstO_ap, eB_ap, eCall_ap, eMth_ap, eIsi_ap, eSl_ap, oNone_ap, oSome_ap, eLc_ap, sSeq_ap, sNil_ap, sBrk_ap, sCnt_ap, sExpr_ap, rtO_some, sRetR_ap, sRetN_ap, sIf_ap, sSet_ap, nxG_ok, sAsg_ap, sAug_ap, gNm_ap, sFor_ap, iRgA_ap, iRgB_ap, iTpl_ap, iLst_ap, restD_p', restAll_nil, restAll_cons, gAdd_int, gAdd_str, gAdd_tup, gAdd_lst, gAddI_int, gSub_int, gMul_int, gMod_int, gFdv_int, gPow_int, gLt_int, gLe_int, gGt_int, gGe_int, gEq_int, gEq_str, gEq_bl, atI_nat', atI_0, atI_1, atI_2, atI_3, atI_4, atI_5, gIx_tup, gIx_lst, gIx_scr, gIx_ob, obL_lst, obL_fz, gLen_tup, gLen_lst, gLen_scr, gLen_ob, gToInt_int, gToInt_bl, gToStr_int, truD_bl, gMin2_int, gMax2_int, isLst_ob, isLst_lst, obO_lst, oLst_ob, appO_some, gApp_ap, gSetL_ap, okE_some, setL_ob, ixN_0, ixN_1, sizeLine_val, rngL_length, List.set_cons_zero, List.set_cons_succ, List.getElem?_cons_zero, List.getElem?_cons_succ, Option.join_some, Option.map_some, Option.bind_some, List.length_cons, List.length_nil, Option.isSome_some, if_true, if_false, Bool.false_eq_true, Bool.false_xor, Bool.true_xor, and_self, Nat.reduceAdd, Nat.reduceLeDiff, reduceIte, List.append_nil, Bool.not_true, Bool.not_false, bYes_ap, gIsN_ap, isNoneD_int, isNoneD_none, Bool.not_not, List.set_set]
    exact ⟨b5, 1 + v, hb5, by omega, by omega, by simp, by simp⟩
  rintro ρ S1 ⟨b5, h, hb5, hh1, hh2, rfl, rfl⟩
  have ek : Ps[k]? = some Ps[k] := List.getElem?_eq_getElem hk
  have gk := hg _ (List.getElem_mem hk)
  generalize Ps[k] = pt at ek gk
  refine WS_cut (fun ρ S1 => S1 = S.set n b5 ∧ ρ = [some (.ob n), some (.p (.tuple (Ps.map Pt.py))), some (.p pg.py), some (.int (k : Nat)), some (.int (x : Nat)), some (.int (y : Nat)), some (.int (w : Nat)), some (.int (h : Nat)), some (.p pt.py)]) ?_ ?_
  · simp -implicitDefEqProofs only [WE_ok, WE_bind, WE_ite, WE_no, WS_nx, WS_rt, WS_bk, WS_ct, WS_lift, WS_seq, WS_ite, oRs_some, eVar_ap, eC_ap, eBin_ap, isB_bl, asB_ap, bAnd_ap, bOr_ap, bNot_ap, bTru_ap, eAnd_wp, eOr_wp, eNot_wp, andR_bl, orR_bl, notR_bl, decide_eq_true_eq, gAny_lst, gAll_lst, gSum_lst, chkOf_p, lItems_lst, eNeg_ap, eIf_ap, aNil_ap, aCons_ap, eTup_ap, eLst_ap, eLstO_ap, eB_ap, eCall_ap, eMth_ap, eIsi_ap, eSl_ap, oNone_ap, oSome_ap, eLc_ap, sSeq_ap, sNil_ap, sBrk_ap, sCnt_ap, sExpr_ap, rtO_some, sRetR_ap, sRetN_ap, sIf_ap, sSet_ap, nxG_ok, sAsg_ap, sAug_ap, gNm_ap, sFor_ap, iRgA_ap, iRgB_ap, iTpl_ap, iLst_ap, restD_p', restAll_nil, restAll_cons, gAdd_int, gAdd_str, gAdd_tup, gAdd_lst, gAddI_int, gSub_int, gMul_int, gMod_int, gFdv_int, gPow_int, gLt_int, gLe_int, gGt_int, gGe_int, gEq_int, gEq_str, gEq_bl, atI_nat', atI_0, atI_1, atI_2, atI_3, atI_4, atI_5, gIx_tup, gIx_lst, gIx_scr, gIx_ob, obL_lst, obL_fz, gLen_tup, gLen_lst, gLen_scr, gLen_ob, gToInt_int, gToInt_bl, gToStr_int, truD_bl, gMin2_int, gMax2_int, isLst_ob, isLst_lst, obO_lst, oLst_ob, appO_some, gApp_ap, gSetL_ap, okE_some, setL_ob, ixN_0, ixN_1, sizeLine_val, rngL_length, List.set_cons_zero, List.set_cons_succ, List.getElem?_cons_zero, List.getElem?_cons_succ, Option.join_some, Option.map_some, Option.bind_some, List.length_cons, List.length_nil, Option.isSome_some, if_true, if_false, Bool.false_eq_true, Bool.false_xor, Bool.true_xor, and_self, Nat.reduceAdd, Nat.reduceLeDiff, reduceIte, List.append_nil, Bool.not_true, Bool.not_false, bYes_ap, gIsN_ap, isNoneD_int, isNoneD_none, Bool.not_not, List.getElem?_map, ek]
    all_goals exact ⟨by trivial, by trivial⟩
  rintro ρ S1 ⟨rfl, rfl⟩
  refine WS_cut (fun ρ S1 => ∃ w h, 1 ≤ w ∧ x + w ≤ pg.w ∧ 1 ≤ h ∧ y + h ≤ pg.h ∧ S1 = S.set n b5 ∧ ρ = [some (.ob n), some (.p (.tuple (Ps.map Pt.py))), some (.p pg.py), some (.int (k : Nat)), some (.int (x : Nat)), some (.int (y : Nat)), some (.int (w : Nat)), some (.int (h : Nat)), some (.p pt.py)]) ?_ ?_
  · cases pt with
    | plain nm lab c0 k0 =>
      simp -implicitDefEqProofs only [WE_ok, WE_bind, WE_ite, WE_no, WS_nx, WS_rt, WS_bk, WS_ct, WS_lift, WS_seq, WS_ite, oRs_some, eVar_ap, eC_ap, eBin_ap, isB_bl, asB_ap, bAnd_ap, bOr_ap, bNot_ap, bTru_ap, eAnd_wp, eOr_wp, eNot_wp, andR_bl, orR_bl, notR_bl, decide_eq_true_eq, gAny_lst, gAll_lst, gSum_lst, chkOf_p, lItems_lst, eNeg_ap, eIf_ap, aNil_ap, aCons_ap, eTup_ap, eLst_ap, eLstO_ap, eB_ap, eCall_ap, eMth_ap, eIsi_ap, eSl_ap, oNone_ap, oSome_ap, eLc_ap, sSeq_ap, sNil_ap, sBrk_ap, sCnt_ap, sExpr_ap, rtO_some, sRetR_ap, sRetN_ap, sIf_ap, sSet_ap, nxG_ok, sAsg_ap, sAug_ap, gNm_ap, sFor_ap, iRgA_ap, iRgB_ap, iTpl_ap, iLst_ap, restD_p', restAll_nil, restAll_cons, gAdd_int, gAdd_str, gAdd_tup, gAdd_lst, gAddI_int, gSub_int, gMul_int, gMod_int, gFdv_int, gPow_int, gLt_int, gLe_int, gGt_int, gGe_int, gEq_int, gEq_str, gEq_bl, atI_nat', atI_0, atI_1, atI_2, atI_3, atI_4, atI_5, gIx_tup, gIx_lst, gIx_scr, gIx_ob, obL_lst, obL_fz, gLen_tup, gLen_lst, gLen_scr, gLen_ob, gToInt_int, gToInt_bl, gToStr_int, truD_bl, gMin2_int, gMax2_int, isLst_ob, isLst_lst, obO_lst, oLst_ob, appO_some, gApp_ap, gSetL_ap, okE_some, setL_ob, ixN_0, ixN_1, sizeLine_val, rngL_length, List.set_cons_zero, List.set_cons_succ, List.getElem?_cons_zero, List.getElem?_cons_succ, Option.join_some, Option.map_some, Option.bind_some, List.length_cons, List.length_nil, Option.isSome_some, if_true, if_false, Bool.false_eq_true, Bool.false_xor, Bool.true_xor, and_self, Nat.reduceAdd, Nat.reduceLeDiff, reduceIte, List.append_nil, Bool.not_true, Bool.not_false, bYes_ap, gIsN_ap, isNoneD_int, isNoneD_none, Bool.not_not, Pt.py, s1]
      exact ⟨w, h, hw1, hw2, hh1, hh2, by trivial, by trivial⟩
    | strip ac2 nm j e =>
      simp -implicitDefEqProofs only [WE_ok, WE_bind, WE_ite, WE_no, WS_nx, WS_rt, WS_bk, WS_ct, WS_lift, WS_seq, WS_ite, oRs_some, eVar_ap, eC_ap, eBin_ap, isB_bl, asB_ap, bAnd_ap, bOr_ap, bNot_ap, bTru_ap, eAnd_wp, eOr_wp, eNot_wp, andR_bl, orR_bl, notR_bl, decide_eq_true_eq, gAny_lst, gAll_lst, gSum_lst, chkOf_p, lItems_lst, eNeg_ap, eIf_ap, aNil_ap, aCons_ap, eTup_ap, eLst_ap, eLstO_ap, eB_ap, eCall_ap, eMth_ap, eIsi_ap, eSl_ap, oNone_ap, oSome_ap, eLc_ap, sSeq_ap, sNil_ap, sBrk_ap, sCnt_ap, sExpr_ap, rtO_some, sRetR_ap, sRetN_ap, sIf_ap, sSet_ap, nxG_ok, sAsg_ap, sAug_ap, gNm_ap, sFor_ap, iRgA_ap, iRgB_ap, iTpl_ap, iLst_ap, restD_p', restAll_nil, restAll_cons, gAdd_int, gAdd_str, gAdd_tup, gAdd_lst, gAddI_int, gSub_int, gMul_int, gMod_int, gFdv_int, gPow_int, gLt_int, gLe_int, gGt_int, gGe_int, gEq_int, gEq_str, gEq_bl, atI_nat', atI_0, atI_1, atI_2, atI_3, atI_4, atI_5, gIx_tup, gIx_lst, gIx_scr, gIx_ob, obL_lst, obL_fz, gLen_tup, gLen_lst, gLen_scr, gLen_ob, gToInt_int, gToInt_bl, gToStr_int, truD_bl, gMin2_int, gMax2_int, isLst_ob, isLst_lst, obO_lst, oLst_ob, appO_some, gApp_ap, gSetL_ap, okE_some, setL_ob, ixN_0, ixN_1, sizeLine_val, rngL_length, List.set_cons_zero, List.set_cons_succ, List.getElem?_cons_zero, List.getElem?_cons_succ, Option.join_some, Option.map_some, Option.bind_some, List.length_cons, List.length_nil, Option.isSome_some, if_true, if_false, Bool.false_eq_true, Bool.false_xor, Bool.true_xor, and_self, Nat.reduceAdd, Nat.reduceLeDiff, reduceIte, List.append_nil, Bool.not_true, Bool.not_false, bYes_ap, gIsN_ap, isNoneD_int, isNoneD_none, Bool.not_not, Pt.py, s5]
      exact ⟨w, h, hw1, hw2, hh1, hh2, by trivial, by trivial⟩
    | shape nm lab c0 w' h' rows =>
      obtain ⟨g1, g2, g3, g4, g5, g6⟩ := gk
      have er : ∃ r, rows[0]? = some r ∧ r.length = w' := by
        have hl0 : 0 < rows.length := by rw [g2.1]; omega
        exact ⟨rows[0], List.getElem?_eq_getElem hl0, (g2.2 _ (List.getElem_mem hl0)).1⟩
      obtain ⟨r, er, lr⟩ := er
      have z1 : w' ≤ 16777216 := by omega
      by_cases k1 : (x : Int) + (w' : Int) ≤ (pg.w : Int)
      · by_cases k2 : (y : Int) + (h' : Int) ≤ (pg.h : Int)
        · simp -implicitDefEqProofs only [WE_ok, WE_bind, WE_ite, WE_no, WS_nx, WS_rt, WS_bk, WS_ct, WS_lift, WS_seq, WS_ite, oRs_some, eVar_ap, eC_ap, eBin_ap, isB_bl, asB_ap, bAnd_ap, bOr_ap, bNot_ap, bTru_ap, eAnd_wp, eOr_wp, eNot_wp, andR_bl, orR_bl, notR_bl, decide_eq_true_eq, gAny_lst, gAll_lst, gSum_lst, chkOf_p, lItems_lst, eNeg_ap, eIf_ap, aNil_ap, aCons_ap, eTup_ap, eLst_ap, eLstO_ap, eB_ap, eCall_ap, eMth_ap, eIsi_ap, eSl_ap, oNone_ap, oSome_ap, eLc_ap, sSeq_ap, sNil_ap, sBrk_ap, sCnt_ap, sExpr_ap, rtO_some, sRetR_ap, sRetN_ap, sIf_ap, sSet_ap, nxG_ok, sAsg_ap, sAug_ap, gNm_ap, sFor_ap, iRgA_ap, iRgB_ap, iTpl_ap, iLst_ap, restD_p', restAll_nil, restAll_cons, gAdd_int, gAdd_str, gAdd_tup, gAdd_lst, gAddI_int, gSub_int, gMul_int, gMod_int, gFdv_int, gPow_int, gLt_int, gLe_int, gGt_int, gGe_int, gEq_int, gEq_str, gEq_bl, atI_nat', atI_0, atI_1, atI_2, atI_3, atI_4, atI_5, gIx_tup, gIx_lst, gIx_scr, gIx_ob, obL_lst, obL_fz, gLen_tup, gLen_lst, gLen_scr, gLen_ob, gToInt_int, gToInt_bl, gToStr_int, truD_bl, gMin2_int, gMax2_int, isLst_ob, isLst_lst, obO_lst, oLst_ob, appO_some, gApp_ap, gSetL_ap, okE_some, setL_ob, ixN_0, ixN_1, sizeLine_val, rngL_length, List.set_cons_zero, List.set_cons_succ, List.getElem?_cons_zero, List.getElem?_cons_succ, Option.join_some, Option.map_some, Option.bind_some, List.length_cons, List.length_nil, Option.isSome_some, if_true, if_false, Bool.false_eq_true, Bool.false_xor, Bool.true_xor, and_self, Nat.reduceAdd, Nat.reduceLeDiff, reduceIte, List.append_nil, Bool.not_true, Bool.not_false, bYes_ap, gIsN_ap, isNoneD_int, isNoneD_none, Bool.not_not, Pt.py, beq_self_eq_true, List.getElem?_map, er, gLen_str, sx_len, lr, z1, gr3, gr4, k1, k2, List.length_map, g2.1]
          exact ⟨w', h', g3, by omega, g5, by omega, by trivial, by trivial⟩
        · simp -implicitDefEqProofs only [WE_ok, WE_bind, WE_ite, WE_no, WS_nx, WS_rt, WS_bk, WS_ct, WS_lift, WS_seq, WS_ite, oRs_some, eVar_ap, eC_ap, eBin_ap, isB_bl, asB_ap, bAnd_ap, bOr_ap, bNot_ap, bTru_ap, eAnd_wp, eOr_wp, eNot_wp, andR_bl, orR_bl, notR_bl, decide_eq_true_eq, gAny_lst, gAll_lst, gSum_lst, chkOf_p, lItems_lst, eNeg_ap, eIf_ap, aNil_ap, aCons_ap, eTup_ap, eLst_ap, eLstO_ap, eB_ap, eCall_ap, eMth_ap, eIsi_ap, eSl_ap, oNone_ap, oSome_ap, eLc_ap, sSeq_ap, sNil_ap, sBrk_ap, sCnt_ap, sExpr_ap, rtO_some, sRetR_ap, sRetN_ap, sIf_ap, sSet_ap, nxG_ok, sAsg_ap, sAug_ap, gNm_ap, sFor_ap, iRgA_ap, iRgB_ap, iTpl_ap, iLst_ap, restD_p', restAll_nil, restAll_cons, gAdd_int, gAdd_str, gAdd_tup, gAdd_lst, gAddI_int, gSub_int, gMul_int, gMod_int, gFdv_int, gPow_int, gLt_int, gLe_int, gGt_int, gGe_int, gEq_int, gEq_str, gEq_bl, atI_nat', atI_0, atI_1, atI_2, atI_3, atI_4, atI_5, gIx_tup, gIx_lst, gIx_scr, gIx_ob, obL_lst, obL_fz, gLen_tup, gLen_lst, gLen_scr, gLen_ob, gToInt_int, gToInt_bl, gToStr_int, truD_bl, gMin2_int, gMax2_int, isLst_ob, isLst_lst, obO_lst, oLst_ob, appO_some, gApp_ap, gSetL_ap, okE_some, setL_ob, ixN_0, ixN_1, sizeLine_val, rngL_length, List.set_cons_zero, List.set_cons_succ, List.getElem?_cons_zero, List.getElem?_cons_succ, Option.join_some, Option.map_some, Option.bind_some, List.length_cons, List.length_nil, Option.isSome_some, if_true, if_false, Bool.false_eq_true, Bool.false_xor, Bool.true_xor, and_self, Nat.reduceAdd, Nat.reduceLeDiff, reduceIte, List.append_nil, Bool.not_true, Bool.not_false, bYes_ap, gIsN_ap, isNoneD_int, isNoneD_none, Bool.not_not, Pt.py, beq_self_eq_true, List.getElem?_map, er, gLen_str, sx_len, lr, z1, gr3, gr4, k1, k2, List.length_map, g2.1]
          exact ⟨w, h, hw1, hw2, hh1, hh2, by trivial, by trivial⟩
      · simp -implicitDefEqProofs only [WE_ok, WE_bind, WE_ite, WE_no, WS_nx, WS_rt, WS_bk, WS_ct, WS_lift, WS_seq, WS_ite, oRs_some, eVar_ap, eC_ap, eBin_ap, isB_bl, asB_ap, bAnd_ap, bOr_ap, bNot_ap, bTru_ap, eAnd_wp, eOr_wp, eNot_wp, andR_bl, orR_bl, notR_bl, decide_eq_true_eq, gAny_lst, gAll_lst, gSum_lst, chkOf_p, lItems_lst, eNeg_ap, eIf_ap, aNil_ap, aCons_ap, eTup_ap, eLst_ap, eLstO_ap, eB_ap, eCall_ap, eMth_ap, eIsi_ap, eSl_ap, oNone_ap, oSome_ap, eLc_ap, sSeq_ap, sNil_ap, sBrk_ap, sCnt_ap, sExpr_ap, rtO_some, sRetR_ap, sRetN_ap, sIf_ap, sSet_ap, nxG_ok, sAsg_ap, sAug_ap, gNm_ap, sFor_ap, iRgA_ap, iRgB_ap, iTpl_ap, iLst_ap, restD_p', restAll_nil, restAll_cons, gAdd_int, gAdd_str, gAdd_tup, gAdd_lst, gAddI_int, gSub_int, gMul_int, gMod_int, gFdv_int, gPow_int, gLt_int, gLe_int, gGt_int, gGe_int, gEq_int, gEq_str, gEq_bl, atI_nat', atI_0, atI_1, atI_2, atI_3, atI_4, atI_5, gIx_tup, gIx_lst, gIx_scr, gIx_ob, obL_lst, obL_fz, gLen_tup, gLen_lst, gLen_scr, gLen_ob, gToInt_int, gToInt_bl, gToStr_int, truD_bl, gMin2_int, gMax2_int, isLst_ob, isLst_lst, obO_lst, oLst_ob, appO_some, gApp_ap, gSetL_ap, okE_some, setL_ob, ixN_0, ixN_1, sizeLine_val, rngL_length, List.set_cons_zero, List.set_cons_succ, List.getElem?_cons_zero, List.getElem?_cons_succ, Option.join_some, Option.map_some, Option.bind_some, List.length_cons, List.length_nil, Option.isSome_some, if_true, if_false, Bool.false_eq_true, Bool.false_xor, Bool.true_xor, and_self, Nat.reduceAdd, Nat.reduceLeDiff, reduceIte, List.append_nil, Bool.not_true, Bool.not_false, bYes_ap, gIsN_ap, isNoneD_int, isNoneD_none, Bool.not_not, Pt.py, beq_self_eq_true, List.getElem?_map, er, gLen_str, sx_len, lr, z1, gr3, gr4, k1]
        exact ⟨w, h, hw1, hw2, hh1, hh2, by trivial, by trivial⟩
  rintro ρ S1 ⟨w, h, hw1, hw2, hh1, hh2, rfl, rfl⟩
  simp -implicitDefEqProofs only [WE_ok, WE_bind, WE_ite, WE_no, WS_nx, WS_rt, WS_bk, WS_ct, WS_lift, WS_seq, WS_ite, oRs_some, eVar_ap, eC_ap, eBin_ap, isB_bl, asB_ap, bAnd_ap, bOr_ap, bNot_ap, bTru_ap, eAnd_wp, eOr_wp, eNot_wp, andR_bl, orR_bl, notR_bl, decide_eq_true_eq, gAny_lst, gAll_lst, gSum_lst, chkOf_p, lItems_lst, eNeg_ap, eIf_ap, aNil_ap, aCons_ap, eTup_ap, eLst_ap, eLstO_ap, eB_ap, eCall_ap, eMth_ap, eIsi_ap, eSl_ap, oNone_ap, oSome_ap, eLc_ap, sSeq_ap, sNil_ap, sBrk_ap, sCnt_ap, sExpr_ap, rtO_some, sRetR_ap, sRetN_ap, sIf_ap, sSet_ap, nxG_ok, sAsg_ap, sAug_ap, gNm_ap, sFor_ap, iRgA_ap, iRgB_ap, iTpl_ap, iLst_ap, restD_p', restAll_nil, restAll_cons, gAdd_int, gAdd_str, gAdd_tup, gAdd_lst, gAddI_int, gSub_int, gMul_int, gMod_int, gFdv_int, gPow_int, gLt_int, gLe_int, gGt_int, gGe_int, gEq_int, gEq_str, gEq_bl, atI_nat', atI_0, atI_1, atI_2, atI_3, atI_4, atI_5, gIx_tup, gIx_lst, gIx_scr, gIx_ob, obL_lst, obL_fz, gLen_tup, gLen_lst, gLen_scr, gLen_ob, gToInt_int, gToInt_bl, gToStr_int, truD_bl, gMin2_int, gMax2_int, isLst_ob, isLst_lst, obO_lst, oLst_ob, appO_some, gApp_ap, gSetL_ap, okE_some, setL_ob, ixN_0, ixN_1, sizeLine_val, rngL_length, List.set_cons_zero, List.set_cons_succ, List.getElem?_cons_zero, List.getElem?_cons_succ, Option.join_some, Option.map_some, Option.bind_some, List.length_cons, List.length_nil, Option.isSome_some, if_true, if_false, Bool.false_eq_true, Bool.false_xor, Bool.true_xor, and_self, Nat.reduceAdd, Nat.reduceLeDiff, reduceIte, List.append_nil, Bool.not_true, Bool.not_false, bYes_ap, gIsN_ap, isNoneD_int, isNoneD_none, Bool.not_not, gr1, gr2]
  refine ⟨b5, ⟨k, pg.x + x, pg.y + y, w, h⟩, hb5, hk, ⟨?_, ?_, ?_, ?_, hw1, hh1⟩, by simp [Rg.py], by trivial⟩ <;> dsimp only <;> omega
end
end My

namespace My
open PySem PySem.Spec PyProof.Rows L2 DL
abbrev Pf (M : DL.Env → Sto → Prop) : Wn := ⟨M, fun d S => d = .bl true, fun _ _ => False, fun _ _ => False, fun _ _ _ => False⟩
abbrev inP (n : Nat) (l : List Rg) : Prop := ∀ r ∈ l, Rg.p r < n
theorem inP.snoc {n : Nat} {l : List Rg} {r : Rg} (h : inP n l) (hr : r.p < n) : inP n (l ++ [r]) := fun x hx => by
  rcases List.mem_append.mp hx with z | z
  · exact h x z
  · rw [List.mem_singleton.mp z]; exact hr
theorem rgL_snoc {l : List Rg} {r : Rg} : O.lst ((l.map fun r => D.p r.py) ++ [D.p r.py]) = rgL (l ++ [r]) := by simp [rgL]
theorem ixN_m1 {n : Nat} : ixN (n + 1) (-1) = some n := by
  unfold ixN
  rw [if_neg (by decide), if_pos (by omega)]
  congr 1
  omega
theorem obs1 {l : List Rg} : obL (some (rgL l)) = some (l.map fun r => D.p r.py) := rfl
section
variable {ns : List Int} {Ps : List Pt} {pg : Rg}
abbrev R0 (ns : List Int) (Ps : List Pt) (pg : Rg) (v6 v7 v8 v9 v10 v11 v12 : Option D) : DL.Env := [some (.scr ns), some (.ob 1), some (.p (.tuple (Ps.map Pt.py))), some (.p pg.py), some (.ob 2), some (.ob 3), v6, v7, v8, v9, v10, v11, v12]
theorem loop1_ok {b x0 : O} {N : Nat} (hb : IsBox b) (hx0 : IsBox x0) (hg : ∀ p ∈ Ps, p.g16) (h1 : 1 ≤ Ps.length) (hw : 1 ≤ pg.w) (hh : 1 ≤ pg.h) (hN : N < 7) :
    WS (forL (gNm 6) (sSeq (sSet 10 (eCall 3 G_law_region (aCons (eVar 1) (aCons (eVar 2) (aCons (eVar 3) (aNil)))))) (sIf (bAnd (asB (eBin (gInT true) (eVar 10) (eVar 4))) (asB (eBin (gInT true) (eVar 10) (eVar 5)))) (sIf (bOr (bTru (eCall 1 G_law_strip (aCons (eBin gIx (eVar 2) (eBin gIx (eVar 10) (eC (.int 0)))) (aNil)))) (asB (eBin (gEq false) (eCall 2 G_law_draw (aCons (eVar 1) (aCons (eC (.int 3)) (aNil)))) (eC (.int 0))))) (sExpr (eMth gApp (eVar 5) (aCons (eVar 10) (aNil)))) (sExpr (eMth gApp (eVar 4) (aCons (eVar 10) (aNil))))) (sNil))) (fun _ => True) (rngL 0 N) (R0 ns Ps pg none none none none none none none) [x0, b, rgL [], rgL []])
      (Pf fun ρ S => ∃ b F B v6 v10, IsBox b ∧ F.length < 100 ∧ B.length < 100 ∧ inP Ps.length F ∧ inP Ps.length B ∧ S = [x0, b, rgL F, rgL B] ∧ ρ = R0 ns Ps pg v6 none none none v10 none none) := by
  have cl : ∀ {b : O} {F B : List Rg}, IsBox b → ClS 0 [x0, b, rgL F, rgL B] := fun hb => clS_cons hx0.cl (clS_cons hb.cl (clS_cons rgL_cl (clS_one rgL_cl)))
  refine WS_for (fun i ρ S' => ∃ b F B v6 v10, IsBox b ∧ F.length ≤ i ∧ B.length ≤ i ∧ inP Ps.length F ∧ inP Ps.length B ∧ S' = [x0, b, rgL F, rgL B] ∧ ρ = R0 ns Ps pg v6 none none none v10 none none) _ 0 _ _
    ⟨b, [], [], none, none, hb, by simp, by simp, (fun _ z => by cases z), (fun _ z => by cases z), rfl, rfl⟩ ?_ ?_
  · rintro i d ρ S' hd ⟨b, F, B, v6, v10, hb, hF, hB, iF, iB, rfl, rfl⟩
    obtain ⟨hi, rfl⟩ := rngL_get hd
    have lF : F.length < 16777216 := by omega
    have lB : B.length < 16777216 := by omega
    simp only [gNm_ap, WE_ok, List.set_cons_succ, List.set_cons_zero, Int.zero_add]
    refine WS_cut (fun ρ S => ∃ b r, IsBox b ∧ Rg.p r < Ps.length ∧ S = [x0, b, rgL F, rgL B] ∧ ρ = R0 ns Ps pg (some (.int (i : Int))) none none none (some (.p r.py)) none none) ?_ ?_
    · simp -implicitDefEqProofs only [WE_ok, WE_bind, WE_ite, WE_no, WS_nx, WS_rt, WS_bk, WS_ct, WS_lift, WS_seq, WS_ite, oRs_some, eVar_ap, eC_ap, eBin_ap, isB_bl, asB_ap, bAnd_ap, bOr_ap, bNot_ap, bTru_ap, eAnd_wp, eOr_wp, eNot_wp, andR_bl, orR_bl, notR_bl, decide_eq_true_eq, gAny_lst, gAll_lst, gSum_lst, chkOf_p, lItems_lst, eNeg_ap, eIf_ap, aNil_ap, aCons_ap, eTup_ap, eLst_ap, eLstO_ap, eB_ap, eCall_ap, eMth_ap, eIsi_ap, eSl_ap, oNone_ap, oSome_ap, eLc_ap, sSeq_ap, sNil_ap, sBrk_ap, sCnt_ap, sExpr_ap, rtO_some, sRetR_ap, sRetN_ap, sIf_ap, sSet_ap, nxG_ok, sAsg_ap, sAug_ap, gNm_ap, sFor_ap, iRgA_ap, iRgB_ap, iTpl_ap, iLst_ap, restD_p', restAll_nil, restAll_cons, gAdd_int, gAdd_str, gAdd_tup, gAdd_lst, gAddI_int, gSub_int, gMul_int, gMod_int, gFdv_int, gPow_int, gLt_int, gLe_int, gGt_int, gGe_int, gEq_int, gEq_str, gEq_bl, atI_nat', atI_0, atI_1, atI_2, atI_3, atI_4, atI_5, gIx_tup, gIx_lst, gIx_scr, gIx_ob, obL_lst, obL_fz, gLen_tup, gLen_lst, gLen_scr, gLen_ob, gToInt_int, gToInt_bl, gToStr_int, truD_bl, gMin2_int, gMax2_int, isLst_ob, isLst_lst, obO_lst, oLst_ob, appO_some, gApp_ap, gSetL_ap, okE_some, setL_ob, ixN_0, ixN_1, sizeLine_val, rngL_length, List.set_cons_zero, List.set_cons_succ, List.getElem?_cons_zero, List.getElem?_cons_succ, Option.join_some, Option.map_some, Option.bind_some, List.length_cons, List.length_nil, Option.isSome_some, if_true, if_false, Bool.false_eq_true, Bool.false_xor, Bool.true_xor, and_self, Nat.reduceAdd, Nat.reduceLeDiff, reduceIte, List.append_nil, Bool.not_true, Bool.not_false, bYes_ap, gIsN_ap, isNoneD_int, isNoneD_none, Bool.not_not]
      refine region_wp (n := 1) rfl hb (cl hb) hg h1 hw hh fun b' r hb' hr _ _ _ _ _ _ => ?_
      simp -implicitDefEqProofs only [WE_ok, WE_bind, WE_ite, WE_no, WS_nx, WS_rt, WS_bk, WS_ct, WS_lift, WS_seq, WS_ite, oRs_some, eVar_ap, eC_ap, eBin_ap, isB_bl, asB_ap, bAnd_ap, bOr_ap, bNot_ap, bTru_ap, eAnd_wp, eOr_wp, eNot_wp, andR_bl, orR_bl, notR_bl, decide_eq_true_eq, gAny_lst, gAll_lst, gSum_lst, chkOf_p, lItems_lst, eNeg_ap, eIf_ap, aNil_ap, aCons_ap, eTup_ap, eLst_ap, eLstO_ap, eB_ap, eCall_ap, eMth_ap, eIsi_ap, eSl_ap, oNone_ap, oSome_ap, eLc_ap, sSeq_ap, sNil_ap, sBrk_ap, sCnt_ap, sExpr_ap, rtO_some, sRetR_ap, sRetN_ap, sIf_ap, sSet_ap, nxG_ok, sAsg_ap, sAug_ap, gNm_ap, sFor_ap, iRgA_ap, iRgB_ap, iTpl_ap, iLst_ap, restD_p', restAll_nil, restAll_cons, gAdd_int, gAdd_str, gAdd_tup, gAdd_lst, gAddI_int, gSub_int, gMul_int, gMod_int, gFdv_int, gPow_int, gLt_int, gLe_int, gGt_int, gGe_int, gEq_int, gEq_str, gEq_bl, atI_nat', atI_0, atI_1, atI_2, atI_3, atI_4, atI_5, gIx_tup, gIx_lst, gIx_scr, gIx_ob, obL_lst, obL_fz, gLen_tup, gLen_lst, gLen_scr, gLen_ob, gToInt_int, gToInt_bl, gToStr_int, truD_bl, gMin2_int, gMax2_int, isLst_ob, isLst_lst, obO_lst, oLst_ob, appO_some, gApp_ap, gSetL_ap, okE_some, setL_ob, ixN_0, ixN_1, sizeLine_val, rngL_length, List.set_cons_zero, List.set_cons_succ, List.getElem?_cons_zero, List.getElem?_cons_succ, Option.join_some, Option.map_some, Option.bind_some, List.length_cons, List.length_nil, Option.isSome_some, if_true, if_false, Bool.false_eq_true, Bool.false_xor, Bool.true_xor, and_self, Nat.reduceAdd, Nat.reduceLeDiff, reduceIte, List.append_nil, Bool.not_true, Bool.not_false, bYes_ap, gIsN_ap, isNoneD_int, isNoneD_none, Bool.not_not]
      exact ⟨b', r, hb', hr, by trivial, by trivial⟩
    rintro ρ S ⟨b1, r, hb1, hr, rfl, rfl⟩
    have gF := gInT_rgL (neg := true) (a := r) (l := F) (S := [x0, b1, rgL F, rgL B]) (n := 2) rfl
    have gB := gInT_rgL (neg := true) (a := r) (l := B) (S := [x0, b1, rgL F, rgL B]) (n := 3) rfl
    by_cases mF : r ∈ F
    · simp -implicitDefEqProofs only [WE_ok, WE_bind, WE_ite, WE_no, WS_nx, WS_rt, WS_bk, WS_ct, WS_lift, WS_seq, WS_ite, oRs_some, eVar_ap, eC_ap, eBin_ap, isB_bl, asB_ap, bAnd_ap, bOr_ap, bNot_ap, bTru_ap, eAnd_wp, eOr_wp, eNot_wp, andR_bl, orR_bl, notR_bl, decide_eq_true_eq, gAny_lst, gAll_lst, gSum_lst, chkOf_p, lItems_lst, eNeg_ap, eIf_ap, aNil_ap, aCons_ap, eTup_ap, eLst_ap, eLstO_ap, eB_ap, eCall_ap, eMth_ap, eIsi_ap, eSl_ap, oNone_ap, oSome_ap, eLc_ap, sSeq_ap, sNil_ap, sBrk_ap, sCnt_ap, sExpr_ap, rtO_some, sRetR_ap, sRetN_ap, sIf_ap, sSet_ap, nxG_ok, sAsg_ap, sAug_ap, gNm_ap, sFor_ap, iRgA_ap, iRgB_ap, iTpl_ap, iLst_ap, restD_p', restAll_nil, restAll_cons, gAdd_int, gAdd_str, gAdd_tup, gAdd_lst, gAddI_int, gSub_int, gMul_int, gMod_int, gFdv_int, gPow_int, gLt_int, gLe_int, gGt_int, gGe_int, gEq_int, gEq_str, gEq_bl, atI_nat', atI_0, atI_1, atI_2, atI_3, atI_4, atI_5, gIx_tup, gIx_lst, gIx_scr, gIx_ob, obL_lst, obL_fz, gLen_tup, gLen_lst, gLen_scr, gLen_ob, gToInt_int, gToInt_bl, gToStr_int, truD_bl, gMin2_int, gMax2_int, isLst_ob, isLst_lst, obO_lst, oLst_ob, appO_some, gApp_ap, gSetL_ap, okE_some, setL_ob, ixN_0, ixN_1, sizeLine_val, rngL_length, List.set_cons_zero, List.set_cons_succ, List.getElem?_cons_zero, List.getElem?_cons_succ, Option.join_some, Option.map_some, Option.bind_some, List.length_cons, List.length_nil, Option.isSome_some, if_true, if_false, Bool.false_eq_true, Bool.false_xor, Bool.true_xor, and_self, Nat.reduceAdd, Nat.reduceLeDiff, reduceIte, List.append_nil, Bool.not_true, Bool.not_false, bYes_ap, gIsN_ap, isNoneD_int, isNoneD_none, Bool.not_not, gF, mF, decide_true]
      exact ⟨by trivial, b1, F, B, _, _, hb1, by omega, by omega, iF, iB, by trivial, by trivial⟩
    · by_cases mB : r ∈ B
      · simp -implicitDefEqProofs only [WE_ok, WE_bind, WE_ite, WE_no, WS_nx, WS_rt, WS_bk, WS_ct, WS_lift, WS_seq, WS_ite, oRs_some, eVar_ap, eC_ap, eBin_ap, isB_bl, asB_ap, bAnd_ap, bOr_ap, bNot_ap, bTru_ap, eAnd_wp, eOr_wp, eNot_wp, andR_bl, orR_bl, notR_bl, decide_eq_true_eq, gAny_lst, gAll_lst, gSum_lst, chkOf_p, lItems_lst, eNeg_ap, eIf_ap, aNil_ap, aCons_ap, eTup_ap, eLst_ap, eLstO_ap, eB_ap, eCall_ap, eMth_ap, eIsi_ap, eSl_ap, oNone_ap, oSome_ap, eLc_ap, sSeq_ap, sNil_ap, sBrk_ap, sCnt_ap, sExpr_ap, rtO_some, sRetR_ap, sRetN_ap, sIf_ap, sSet_ap, nxG_ok, sAsg_ap, sAug_ap, gNm_ap, sFor_ap, iRgA_ap, iRgB_ap, iTpl_ap, iLst_ap, restD_p', restAll_nil, restAll_cons, gAdd_int, gAdd_str, gAdd_tup, gAdd_lst, gAddI_int, gSub_int, gMul_int, gMod_int, gFdv_int, gPow_int, gLt_int, gLe_int, gGt_int, gGe_int, gEq_int, gEq_str, gEq_bl, atI_nat', atI_0, atI_1, atI_2, atI_3, atI_4, atI_5, gIx_tup, gIx_lst, gIx_scr, gIx_ob, obL_lst, obL_fz, gLen_tup, gLen_lst, gLen_scr, gLen_ob, gToInt_int, gToInt_bl, gToStr_int, truD_bl, gMin2_int, gMax2_int, isLst_ob, isLst_lst, obO_lst, oLst_ob, appO_some, gApp_ap, gSetL_ap, okE_some, setL_ob, ixN_0, ixN_1, sizeLine_val, rngL_length, List.set_cons_zero, List.set_cons_succ, List.getElem?_cons_zero, List.getElem?_cons_succ, Option.join_some, Option.map_some, Option.bind_some, List.length_cons, List.length_nil, Option.isSome_some, if_true, if_false, Bool.false_eq_true, Bool.false_xor, Bool.true_xor, and_self, Nat.reduceAdd, Nat.reduceLeDiff, reduceIte, List.append_nil, Bool.not_true, Bool.not_false, bYes_ap, gIsN_ap, isNoneD_int, isNoneD_none, Bool.not_not, gF, mF, decide_false, gB, mB, decide_true]
        exact ⟨by trivial, b1, F, B, _, _, hb1, by omega, by omega, iF, iB, by trivial, by trivial⟩
      · have ek : Ps[r.p]? = some Ps[r.p] := List.getElem?_eq_getElem hr
        generalize Ps[r.p] = pt at ek
        simp -implicitDefEqProofs only [WE_ok, WE_bind, WE_ite, WE_no, WS_nx, WS_rt, WS_bk, WS_ct, WS_lift, WS_seq, WS_ite, oRs_some, eVar_ap, eC_ap, eBin_ap, isB_bl, asB_ap, bAnd_ap, bOr_ap, bNot_ap, bTru_ap, eAnd_wp, eOr_wp, eNot_wp, andR_bl, orR_bl, notR_bl, decide_eq_true_eq, gAny_lst, gAll_lst, gSum_lst, chkOf_p, lItems_lst, eNeg_ap, eIf_ap, aNil_ap, aCons_ap, eTup_ap, eLst_ap, eLstO_ap, eB_ap, eCall_ap, eMth_ap, eIsi_ap, eSl_ap, oNone_ap, oSome_ap, eLc_ap, sSeq_ap, sNil_ap, sBrk_ap, sCnt_ap, sExpr_ap, rtO_some, sRetR_ap, sRetN_ap, sIf_ap, sSet_ap, nxG_ok, sAsg_ap, sAug_ap, gNm_ap, sFor_ap, iRgA_ap, iRgB_ap, iTpl_ap, iLst_ap, restD_p', restAll_nil, restAll_cons, gAdd_int, gAdd_str, gAdd_tup, gAdd_lst, gAddI_int, gSub_int, gMul_int, gMod_int, gFdv_int, gPow_int, gLt_int, gLe_int, gGt_int, gGe_int, gEq_int, gEq_str, gEq_bl, atI_nat', atI_0, atI_1, atI_2, atI_3, atI_4, atI_5, gIx_tup, gIx_lst, gIx_scr, gIx_ob, obL_lst, obL_fz, gLen_tup, gLen_lst, gLen_scr, gLen_ob, gToInt_int, gToInt_bl, gToStr_int, truD_bl, gMin2_int, gMax2_int, isLst_ob, isLst_lst, obO_lst, oLst_ob, appO_some, gApp_ap, gSetL_ap, okE_some, setL_ob, ixN_0, ixN_1, sizeLine_val, rngL_length, List.set_cons_zero, List.set_cons_succ, List.getElem?_cons_zero, List.getElem?_cons_succ, Option.join_some, Option.map_some, Option.bind_some, List.length_cons, List.length_nil, Option.isSome_some, if_true, if_false, Bool.false_eq_true, Bool.false_xor, Bool.true_xor, and_self, Nat.reduceAdd, Nat.reduceLeDiff, reduceIte, List.append_nil, Bool.not_true, Bool.not_false, bYes_ap, gIsN_ap, isNoneD_int, isNoneD_none, Bool.not_not, gF, mF, decide_false, gB, mB, gr0, List.getElem?_map, ek]
        refine lawstrip_wp (cl hb1) ?_
        cases hst : pt.isStrip with
        | true =>
          simp -implicitDefEqProofs only [WE_ok, WE_bind, WE_ite, WE_no, WS_nx, WS_rt, WS_bk, WS_ct, WS_lift, WS_seq, WS_ite, oRs_some, eVar_ap, eC_ap, eBin_ap, isB_bl, asB_ap, bAnd_ap, bOr_ap, bNot_ap, bTru_ap, eAnd_wp, eOr_wp, eNot_wp, andR_bl, orR_bl, notR_bl, decide_eq_true_eq, gAny_lst, gAll_lst, gSum_lst, chkOf_p, lItems_lst, eNeg_ap, eIf_ap, aNil_ap, aCons_ap, eTup_ap, eLst_ap, eLstO_ap, eB_ap, eCall_ap, eMth_ap, eIsi_ap, eSl_ap, oNone_ap, oSome_ap, eLc_ap, sSeq_ap, sNil_ap, sBrk_ap, sCnt_ap, sExpr_ap, rtO_some, sRetR_ap, sRetN_ap, sIf_ap, sSet_ap, nxG_ok, sAsg_ap, sAug_ap, gNm_ap, sFor_ap, iRgA_ap, iRgB_ap, iTpl_ap, iLst_ap, restD_p', restAll_nil, restAll_cons, gAdd_int, gAdd_str, gAdd_tup, gAdd_lst, gAddI_int, gSub_int, gMul_int, gMod_int, gFdv_int, gPow_int, gLt_int, gLe_int, gGt_int, gGe_int, gEq_int, gEq_str, gEq_bl, atI_nat', atI_0, atI_1, atI_2, atI_3, atI_4, atI_5, gIx_tup, gIx_lst, gIx_scr, gIx_ob, obL_lst, obL_fz, gLen_tup, gLen_lst, gLen_scr, gLen_ob, gToInt_int, gToInt_bl, gToStr_int, truD_bl, gMin2_int, gMax2_int, isLst_ob, isLst_lst, obO_lst, oLst_ob, appO_some, gApp_ap, gSetL_ap, okE_some, setL_ob, ixN_0, ixN_1, sizeLine_val, rngL_length, List.set_cons_zero, List.set_cons_succ, List.getElem?_cons_zero, List.getElem?_cons_succ, Option.join_some, Option.map_some, Option.bind_some, List.length_cons, List.length_nil, Option.isSome_some, if_true, if_false, Bool.false_eq_true, Bool.false_xor, Bool.true_xor, and_self, Nat.reduceAdd, Nat.reduceLeDiff, reduceIte, List.append_nil, Bool.not_true, Bool.not_false, bYes_ap, gIsN_ap, isNoneD_int, isNoneD_none, Bool.not_not, List.length_map, lB, rgL_snoc]
          exact ⟨by trivial, b1, F, B ++ [r], _, _, hb1, by omega, by simp; omega, iF, iB.snoc hr, by trivial, by trivial⟩
        | false =>
          simp -implicitDefEqProofs only [WE_ok, WE_bind, WE_ite, WE_no, WS_nx, WS_rt, WS_bk, WS_ct, WS_lift, WS_seq, WS_ite, oRs_some, eVar_ap, eC_ap, eBin_ap, isB_bl, asB_ap, bAnd_ap, bOr_ap, bNot_ap, bTru_ap, eAnd_wp, eOr_wp, eNot_wp, andR_bl, orR_bl, notR_bl, decide_eq_true_eq, gAny_lst, gAll_lst, gSum_lst, chkOf_p, lItems_lst, eNeg_ap, eIf_ap, aNil_ap, aCons_ap, eTup_ap, eLst_ap, eLstO_ap, eB_ap, eCall_ap, eMth_ap, eIsi_ap, eSl_ap, oNone_ap, oSome_ap, eLc_ap, sSeq_ap, sNil_ap, sBrk_ap, sCnt_ap, sExpr_ap, rtO_some, sRetR_ap, sRetN_ap, sIf_ap, sSet_ap, nxG_ok, sAsg_ap, sAug_ap, gNm_ap, sFor_ap, iRgA_ap, iRgB_ap, iTpl_ap, iLst_ap, restD_p', restAll_nil, restAll_cons, gAdd_int, gAdd_str, gAdd_tup, gAdd_lst, gAddI_int, gSub_int, gMul_int, gMod_int, gFdv_int, gPow_int, gLt_int, gLe_int, gGt_int, gGe_int, gEq_int, gEq_str, gEq_bl, atI_nat', atI_0, atI_1, atI_2, atI_3, atI_4, atI_5, gIx_tup, gIx_lst, gIx_scr, gIx_ob, obL_lst, obL_fz, gLen_tup, gLen_lst, gLen_scr, gLen_ob, gToInt_int, gToInt_bl, gToStr_int, truD_bl, gMin2_int, gMax2_int, isLst_ob, isLst_lst, obO_lst, oLst_ob, appO_some, gApp_ap, gSetL_ap, okE_some, setL_ob, ixN_0, ixN_1, sizeLine_val, rngL_length, List.set_cons_zero, List.set_cons_succ, List.getElem?_cons_zero, List.getElem?_cons_succ, Option.join_some, Option.map_some, Option.bind_some, List.length_cons, List.length_nil, Option.isSome_some, if_true, if_false, Bool.false_eq_true, Bool.false_xor, Bool.true_xor, and_self, Nat.reduceAdd, Nat.reduceLeDiff, reduceIte, List.append_nil, Bool.not_true, Bool.not_false, bYes_ap, gIsN_ap, isNoneD_int, isNoneD_none, Bool.not_not]
          refine draw_wp (n := 1) rfl hb1 (by decide) (cl hb1) fun v b2 h0 h1' hb2 => ?_
          by_cases hv : v = 0
          · subst hv
            simp -implicitDefEqProofs only [WE_ok, WE_bind, WE_ite, WE_no, WS_nx, WS_rt, WS_bk, WS_ct, WS_lift, WS_seq, WS_ite, oRs_some, eVar_ap, eC_ap, eBin_ap, isB_bl, asB_ap, bAnd_ap, bOr_ap, bNot_ap, bTru_ap, eAnd_wp, eOr_wp, eNot_wp, andR_bl, orR_bl, notR_bl, decide_eq_true_eq, gAny_lst, gAll_lst, gSum_lst, chkOf_p, lItems_lst, eNeg_ap, eIf_ap, aNil_ap, aCons_ap, eTup_ap, eLst_ap, eLstO_ap, eB_ap, eCall_ap, eMth_ap, eIsi_ap, eSl_ap, oNone_ap, oSome_ap, eLc_ap, sSeq_ap, sNil_ap, sBrk_ap, sCnt_ap, sExpr_ap, rtO_some, sRetR_ap, sRetN_ap, sIf_ap, sSet_ap, nxG_ok, sAsg_ap, sAug_ap, gNm_ap, sFor_ap, iRgA_ap, iRgB_ap, iTpl_ap, iLst_ap, restD_p', restAll_nil, restAll_cons, gAdd_int, gAdd_str, gAdd_tup, gAdd_lst, gAddI_int, gSub_int, gMul_int, gMod_int, gFdv_int, gPow_int, gLt_int, gLe_int, gGt_int, gGe_int, gEq_int, gEq_str, gEq_bl, atI_nat', atI_0, atI_1, atI_2, atI_3, atI_4, atI_5, gIx_tup, gIx_lst, gIx_scr, gIx_ob, obL_lst, obL_fz, gLen_tup, gLen_lst, gLen_scr, gLen_ob, gToInt_int, gToInt_bl, gToStr_int, truD_bl, gMin2_int, gMax2_int, isLst_ob, isLst_lst, obO_lst, oLst_ob, appO_some, gApp_ap, gSetL_ap, okE_some, setL_ob, ixN_0, ixN_1, sizeLine_val, rngL_length, List.set_cons_zero, List.set_cons_succ, List.getElem?_cons_zero, List.getElem?_cons_succ, Option.join_some, Option.map_some, Option.bind_some, List.length_cons, List.length_nil, Option.isSome_some, if_true, if_false, Bool.false_eq_true, Bool.false_xor, Bool.true_xor, and_self, Nat.reduceAdd, Nat.reduceLeDiff, reduceIte, List.append_nil, Bool.not_true, Bool.not_false, bYes_ap, gIsN_ap, isNoneD_int, isNoneD_none, Bool.not_not, beq_self_eq_true, List.length_map, lB, rgL_snoc]
            exact ⟨by trivial, b2, F, B ++ [r], _, _, hb2, by omega, by simp; omega, iF, iB.snoc hr, by trivial, by trivial⟩
          · have hv0 : (v == 0) = false := beq_eq_false_iff_ne.mpr hv
            simp -implicitDefEqProofs only [WE_ok, WE_bind, WE_ite, WE_no, WS_nx, WS_rt, WS_bk, WS_ct, WS_lift, WS_seq, WS_ite, oRs_some, eVar_ap, eC_ap, eBin_ap, isB_bl, asB_ap, bAnd_ap, bOr_ap, bNot_ap, bTru_ap, eAnd_wp, eOr_wp, eNot_wp, andR_bl, orR_bl, notR_bl, decide_eq_true_eq, gAny_lst, gAll_lst, gSum_lst, chkOf_p, lItems_lst, eNeg_ap, eIf_ap, aNil_ap, aCons_ap, eTup_ap, eLst_ap, eLstO_ap, eB_ap, eCall_ap, eMth_ap, eIsi_ap, eSl_ap, oNone_ap, oSome_ap, eLc_ap, sSeq_ap, sNil_ap, sBrk_ap, sCnt_ap, sExpr_ap, rtO_some, sRetR_ap, sRetN_ap, sIf_ap, sSet_ap, nxG_ok, sAsg_ap, sAug_ap, gNm_ap, sFor_ap, iRgA_ap, iRgB_ap, iTpl_ap, iLst_ap, restD_p', restAll_nil, restAll_cons, gAdd_int, gAdd_str, gAdd_tup, gAdd_lst, gAddI_int, gSub_int, gMul_int, gMod_int, gFdv_int, gPow_int, gLt_int, gLe_int, gGt_int, gGe_int, gEq_int, gEq_str, gEq_bl, atI_nat', atI_0, atI_1, atI_2, atI_3, atI_4, atI_5, gIx_tup, gIx_lst, gIx_scr, gIx_ob, obL_lst, obL_fz, gLen_tup, gLen_lst, gLen_scr, gLen_ob, gToInt_int, gToInt_bl, gToStr_int, truD_bl, gMin2_int, gMax2_int, isLst_ob, isLst_lst, obO_lst, oLst_ob, appO_some, gApp_ap, gSetL_ap, okE_some, setL_ob, ixN_0, ixN_1, sizeLine_val, rngL_length, List.set_cons_zero, List.set_cons_succ, List.getElem?_cons_zero, List.getElem?_cons_succ, Option.join_some, Option.map_some, Option.bind_some, List.length_cons, List.length_nil, Option.isSome_some, if_true, if_false, Bool.false_eq_true, Bool.false_xor, Bool.true_xor, and_self, Nat.reduceAdd, Nat.reduceLeDiff, reduceIte, List.append_nil, Bool.not_true, Bool.not_false, bYes_ap, gIsN_ap, isNoneD_int, isNoneD_none, Bool.not_not, hv0, List.length_map, lF, rgL_snoc]
            exact ⟨by trivial, b2, F ++ [r], B, _, _, hb2, by simp; omega, by omega, iF.snoc hr, iB, by trivial, by trivial⟩
  · rintro ρ S ⟨b, F, B, v6, v10, hb, hF, hB, iF, iB, rfl, rfl⟩
    rw [rngL_length] at hF hB
    exact ⟨b, F, B, v6, v10, hb, by omega, by omega, iF, iB, rfl, rfl⟩
end
end My

namespace My
open PySem PySem.Spec PyProof.Rows L2 DL
section
variable {ns : List Int} {Ps : List Pt} {pg : Rg}
theorem last_set {T : Sto} {x y : O} : (T ++ [x]).set T.length y = T ++ [y] := by
  rw [List.set_append_right _ _ (Nat.le_refl _)]; simp
theorem sl_rg {r : Rg} {S : Sto} : gSl (.p r.py) (some 1) none S = .ok (.tup [.int r.x, .int r.y, .int r.w, .int r.h]) S := rfl
theorem clS_take {k n : Nat} {S : Sto} (h : ClS k S) : ClS k (S.take n) := fun o ho => h o (List.mem_of_mem_take ho)
theorem loop2_ok {x0 b : O} {F B : List Rg} {A : List Rg} {N : Nat} {v6 v7 v9 v10 : Option D} (hb : IsBox b) (hx0 : IsBox x0) (hg : ∀ p ∈ Ps, p.g16) (h1 : 1 ≤ Ps.length) (hw : 1 ≤ pg.w) (hh : 1 ≤ pg.h) (hN : N < 100)
    (iF : inP Ps.length F) (iA : inP Ps.length A) (lF : F.length < 1000) (lA : A.length < 1000) :
    WS (forL (gNm 6) (sSeq (sSet 11 (eLstO (aCons (eCall 3 G_law_digits (aCons (eVar 0) (aCons (eVar 6) (aCons (eBin gAdd (eVar 6) (eC (.int 1))) (aNil))))) (aCons (eC (.int 0)) (aNil))))) (sSeq (sExpr (eMth gApp (eVar 8) (aCons (eCall 3 G_law_region (aCons (eVar 11) (aCons (eVar 2) (aCons (eVar 3) (aNil))))) (aNil)))) (sIf (bAnd (asB (eBin gGt (eB gLen (aCons (eVar 4) (aNil))) (eC (.int 0)))) (asB (eBin (gEq false) (eCall 2 G_law_draw (aCons (eVar 11) (aCons (eC (.int 3)) (aNil)))) (eC (.int 0))))) (sAsg (eBin gAdd (eTup (aCons (eBin gIx (eBin gIx (eVar 8) (eNeg (eC (.int 1)))) (eC (.int 0))) (aNil))) (eSl (eBin gIx (eVar 4) (eBin gMod (eCall 2 G_law_draw (aCons (eVar 11) (aCons (eC (.int 60)) (aNil)))) (eB gLen (aCons (eVar 4) (aNil))))) (oSome (eC (.int 1))) (oNone))) (gSetL (eVar 8) (eNeg (eC (.int 1))))) (sNil)))) (fun _ => True) (rngL 28 N) (R0 ns Ps pg v6 v7 (some (.ob 4)) v9 v10 none none) [x0, b, rgL F, rgL B, rgL A])
      (Pf fun ρ S => ∃ A T v6 v11, inP Ps.length A ∧ A.length < 2000 ∧ ClS 0 T ∧ S = x0 :: b :: rgL F :: rgL B :: rgL A :: T ∧ ρ = R0 ns Ps pg v6 v7 (some (.ob 4)) v9 v10 v11 none) := by
  have cl : ∀ {A : List Rg} {T : Sto}, ClS 0 T → ClS 0 (x0 :: b :: rgL F :: rgL B :: rgL A :: T) := fun h => clS_cons hx0.cl (clS_cons hb.cl (clS_cons rgL_cl (clS_cons rgL_cl (clS_cons rgL_cl h))))
  refine WS_for (fun i ρ S' => ∃ A T v6 v11, inP Ps.length A ∧ A.length < 1000 + i ∧ ClS 0 T ∧ S' = x0 :: b :: rgL F :: rgL B :: rgL A :: T ∧ ρ = R0 ns Ps pg v6 v7 (some (.ob 4)) v9 v10 v11 none) _ 0 _ _
    ⟨A, [], _, _, iA, by omega, clS_nil, rfl, rfl⟩ ?_ ?_
  · rintro i d ρ S' hd ⟨A, T, v6, v11, iA, lA, cT, rfl, rfl⟩
    obtain ⟨hi, rfl⟩ := rngL_get hd
    have lA2 : A.length < 16777216 := by omega
    rw [show ((28 : Int) + (i : Int)) = ((28 + i : Nat) : Int) by omega]
    simp only [gNm_ap, WE_ok, List.set_cons_succ, List.set_cons_zero]
    refine WS_cut (fun ρ S => ∃ x, IsBox x ∧ S = x0 :: b :: rgL F :: rgL B :: rgL A :: (T ++ [x]) ∧ ρ = R0 ns Ps pg (some (.int (28 + i : Nat))) v7 (some (.ob 4)) v9 v10 (some (.ob (T.length + 5))) none) ?_ ?_
    · simp -implicitDefEqProofs only [WE_ok, WE_bind, WE_ite, WE_no, WS_nx, WS_rt, WS_bk, WS_ct, WS_lift, WS_seq, WS_ite, oRs_some, eVar_ap, eC_ap, eBin_ap, isB_bl, asB_ap, bAnd_ap, bOr_ap, bNot_ap, bTru_ap, eAnd_wp, eOr_wp, eNot_wp, andR_bl, orR_bl, notR_bl, decide_eq_true_eq, gAny_lst, gAll_lst, gSum_lst, chkOf_p, lItems_lst, eNeg_ap, eIf_ap, aNil_ap, aCons_ap, eTup_ap, eLst_ap, eLstO_ap, eB_ap, eCall_ap, eMth_ap, eIsi_ap, eSl_ap, oNone_ap, oSome_ap, eLc_ap, sSeq_ap, sNil_ap, sBrk_ap, sCnt_ap, sExpr_ap, rtO_some, sRetR_ap, sRetN_ap, sIf_ap, sSet_ap, nxG_ok, sAsg_ap, sAug_ap, gNm_ap, sFor_ap, iRgA_ap, iRgB_ap, iTpl_ap, iLst_ap, restD_p', restAll_nil, restAll_cons, gAdd_int, gAdd_str, gAdd_tup, gAdd_lst, gAddI_int, gSub_int, gMul_int, gMod_int, gFdv_int, gPow_int, gLt_int, gLe_int, gGt_int, gGe_int, gEq_int, gEq_str, gEq_bl, atI_nat', atI_0, atI_1, atI_2, atI_3, atI_4, atI_5, gIx_tup, gIx_lst, gIx_scr, gIx_ob, obL_lst, obL_fz, gLen_tup, gLen_lst, gLen_scr, gLen_ob, gToInt_int, gToInt_bl, gToStr_int, truD_bl, gMin2_int, gMax2_int, isLst_ob, isLst_lst, obO_lst, oLst_ob, appO_some, gApp_ap, gSetL_ap, okE_some, setL_ob, ixN_0, ixN_1, sizeLine_val, rngL_length, List.set_cons_zero, List.set_cons_succ, List.getElem?_cons_zero, List.getElem?_cons_succ, Option.join_some, Option.map_some, Option.bind_some, List.length_cons, List.length_nil, Option.isSome_some, if_true, if_false, Bool.false_eq_true, Bool.false_xor, Bool.true_xor, and_self, Nat.reduceAdd, Nat.reduceLeDiff, reduceIte, List.append_nil, Bool.not_true, Bool.not_false, bYes_ap, gIsN_ap, isNoneD_int, isNoneD_none, Bool.not_not]
      rw [show (((28 + i : Nat) : Int) + 1) = ((28 + i + 1 : Nat) : Int) by omega]
      refine digits_wp (lo := 28 + i) (hi := 28 + i + 1) (cl cT) (by omega) (by omega) fun dg => ?_
      simp -implicitDefEqProofs only [WE_ok, WE_bind, WE_ite, WE_no, WS_nx, WS_rt, WS_bk, WS_ct, WS_lift, WS_seq, WS_ite, oRs_some, eVar_ap, eC_ap, eBin_ap, isB_bl, asB_ap, bAnd_ap, bOr_ap, bNot_ap, bTru_ap, eAnd_wp, eOr_wp, eNot_wp, andR_bl, orR_bl, notR_bl, decide_eq_true_eq, gAny_lst, gAll_lst, gSum_lst, chkOf_p, lItems_lst, eNeg_ap, eIf_ap, aNil_ap, aCons_ap, eTup_ap, eLst_ap, eLstO_ap, eB_ap, eCall_ap, eMth_ap, eIsi_ap, eSl_ap, oNone_ap, oSome_ap, eLc_ap, sSeq_ap, sNil_ap, sBrk_ap, sCnt_ap, sExpr_ap, rtO_some, sRetR_ap, sRetN_ap, sIf_ap, sSet_ap, nxG_ok, sAsg_ap, sAug_ap, gNm_ap, sFor_ap, iRgA_ap, iRgB_ap, iTpl_ap, iLst_ap, restD_p', restAll_nil, restAll_cons, gAdd_int, gAdd_str, gAdd_tup, gAdd_lst, gAddI_int, gSub_int, gMul_int, gMod_int, gFdv_int, gPow_int, gLt_int, gLe_int, gGt_int, gGe_int, gEq_int, gEq_str, gEq_bl, atI_nat', atI_0, atI_1, atI_2, atI_3, atI_4, atI_5, gIx_tup, gIx_lst, gIx_scr, gIx_ob, obL_lst, obL_fz, gLen_tup, gLen_lst, gLen_scr, gLen_ob, gToInt_int, gToInt_bl, gToStr_int, truD_bl, gMin2_int, gMax2_int, isLst_ob, isLst_lst, obO_lst, oLst_ob, appO_some, gApp_ap, gSetL_ap, okE_some, setL_ob, ixN_0, ixN_1, sizeLine_val, rngL_length, List.set_cons_zero, List.set_cons_succ, List.getElem?_cons_zero, List.getElem?_cons_succ, Option.join_some, Option.map_some, Option.bind_some, List.length_cons, List.length_nil, Option.isSome_some, if_true, if_false, Bool.false_eq_true, Bool.false_xor, Bool.true_xor, and_self, Nat.reduceAdd, Nat.reduceLeDiff, reduceIte, List.append_nil, Bool.not_true, Bool.not_false, bYes_ap, gIsN_ap, isNoneD_int, isNoneD_none, Bool.not_not]
      exact ⟨_, ⟨dg, 0, rfl⟩, by trivial, by trivial⟩
    rintro ρ S ⟨x, hx, rfl, rfl⟩
    refine WS_cut (fun ρ S => ∃ x r, IsBox x ∧ Rg.p r < Ps.length ∧ S = x0 :: b :: rgL F :: rgL B :: rgL (A ++ [r]) :: (T ++ [x]) ∧ ρ = R0 ns Ps pg (some (.int (28 + i : Nat))) v7 (some (.ob 4)) v9 v10 (some (.ob (T.length + 5))) none) ?_ ?_
    · simp -implicitDefEqProofs only [WE_ok, WE_bind, WE_ite, WE_no, WS_nx, WS_rt, WS_bk, WS_ct, WS_lift, WS_seq, WS_ite, oRs_some, eVar_ap, eC_ap, eBin_ap, isB_bl, asB_ap, bAnd_ap, bOr_ap, bNot_ap, bTru_ap, eAnd_wp, eOr_wp, eNot_wp, andR_bl, orR_bl, notR_bl, decide_eq_true_eq, gAny_lst, gAll_lst, gSum_lst, chkOf_p, lItems_lst, eNeg_ap, eIf_ap, aNil_ap, aCons_ap, eTup_ap, eLst_ap, eLstO_ap, eB_ap, eCall_ap, eMth_ap, eIsi_ap, eSl_ap, oNone_ap, oSome_ap, eLc_ap, sSeq_ap, sNil_ap, sBrk_ap, sCnt_ap, sExpr_ap, rtO_some, sRetR_ap, sRetN_ap, sIf_ap, sSet_ap, nxG_ok, sAsg_ap, sAug_ap, gNm_ap, sFor_ap, iRgA_ap, iRgB_ap, iTpl_ap, iLst_ap, restD_p', restAll_nil, restAll_cons, gAdd_int, gAdd_str, gAdd_tup, gAdd_lst, gAddI_int, gSub_int, gMul_int, gMod_int, gFdv_int, gPow_int, gLt_int, gLe_int, gGt_int, gGe_int, gEq_int, gEq_str, gEq_bl, atI_nat', atI_0, atI_1, atI_2, atI_3, atI_4, atI_5, gIx_tup, gIx_lst, gIx_scr, gIx_ob, obL_lst, obL_fz, gLen_tup, gLen_lst, gLen_scr, gLen_ob, gToInt_int, gToInt_bl, gToStr_int, truD_bl, gMin2_int, gMax2_int, isLst_ob, isLst_lst, obO_lst, oLst_ob, appO_some, gApp_ap, gSetL_ap, okE_some, setL_ob, ixN_0, ixN_1, sizeLine_val, rngL_length, List.set_cons_zero, List.set_cons_succ, List.getElem?_cons_zero, List.getElem?_cons_succ, Option.join_some, Option.map_some, Option.bind_some, List.length_cons, List.length_nil, Option.isSome_some, if_true, if_false, Bool.false_eq_true, Bool.false_xor, Bool.true_xor, and_self, Nat.reduceAdd, Nat.reduceLeDiff, reduceIte, List.append_nil, Bool.not_true, Bool.not_false, bYes_ap, gIsN_ap, isNoneD_int, isNoneD_none, Bool.not_not]
      refine region_wp (n := T.length + 5) (b := x) (by simp) hx (cl (clS_app cT (clS_one hx.cl))) hg h1 hw hh fun b' r hb' hr _ _ _ _ _ _ => ?_
      simp -implicitDefEqProofs only [WE_ok, WE_bind, WE_ite, WE_no, WS_nx, WS_rt, WS_bk, WS_ct, WS_lift, WS_seq, WS_ite, oRs_some, eVar_ap, eC_ap, eBin_ap, isB_bl, asB_ap, bAnd_ap, bOr_ap, bNot_ap, bTru_ap, eAnd_wp, eOr_wp, eNot_wp, andR_bl, orR_bl, notR_bl, decide_eq_true_eq, gAny_lst, gAll_lst, gSum_lst, chkOf_p, lItems_lst, eNeg_ap, eIf_ap, aNil_ap, aCons_ap, eTup_ap, eLst_ap, eLstO_ap, eB_ap, eCall_ap, eMth_ap, eIsi_ap, eSl_ap, oNone_ap, oSome_ap, eLc_ap, sSeq_ap, sNil_ap, sBrk_ap, sCnt_ap, sExpr_ap, rtO_some, sRetR_ap, sRetN_ap, sIf_ap, sSet_ap, nxG_ok, sAsg_ap, sAug_ap, gNm_ap, sFor_ap, iRgA_ap, iRgB_ap, iTpl_ap, iLst_ap, restD_p', restAll_nil, restAll_cons, gAdd_int, gAdd_str, gAdd_tup, gAdd_lst, gAddI_int, gSub_int, gMul_int, gMod_int, gFdv_int, gPow_int, gLt_int, gLe_int, gGt_int, gGe_int, gEq_int, gEq_str, gEq_bl, atI_nat', atI_0, atI_1, atI_2, atI_3, atI_4, atI_5, gIx_tup, gIx_lst, gIx_scr, gIx_ob, obL_lst, obL_fz, gLen_tup, gLen_lst, gLen_scr, gLen_ob, gToInt_int, gToInt_bl, gToStr_int, truD_bl, gMin2_int, gMax2_int, isLst_ob, isLst_lst, obO_lst, oLst_ob, appO_some, gApp_ap, gSetL_ap, okE_some, setL_ob, ixN_0, ixN_1, sizeLine_val, rngL_length, List.set_cons_zero, List.set_cons_succ, List.getElem?_cons_zero, List.getElem?_cons_succ, Option.join_some, Option.map_some, Option.bind_some, List.length_cons, List.length_nil, Option.isSome_some, if_true, if_false, Bool.false_eq_true, Bool.false_xor, Bool.true_xor, and_self, Nat.reduceAdd, Nat.reduceLeDiff, reduceIte, List.append_nil, Bool.not_true, Bool.not_false, bYes_ap, gIsN_ap, isNoneD_int, isNoneD_none, Bool.not_not, last_set, List.length_map, lA2, rgL_snoc]
      exact ⟨b', r, hb', hr, by trivial, by trivial⟩
    rintro ρ S ⟨x, r, hx, hr, rfl, rfl⟩
    have cl2 : ∀ {x : O}, IsBox x → ClS 0 (x0 :: b :: rgL F :: rgL B :: rgL (A ++ [r]) :: (T ++ [x])) := fun hx => cl (clS_app cT (clS_one hx.cl))
    by_cases hF : 0 < (F.length : Int)
    · simp -implicitDefEqProofs only [WE_ok, WE_bind, WE_ite, WE_no, WS_nx, WS_rt, WS_bk, WS_ct, WS_lift, WS_seq, WS_ite, oRs_some, eVar_ap, eC_ap, eBin_ap, isB_bl, asB_ap, bAnd_ap, bOr_ap, bNot_ap, bTru_ap, eAnd_wp, eOr_wp, eNot_wp, andR_bl, orR_bl, notR_bl, decide_eq_true_eq, gAny_lst, gAll_lst, gSum_lst, chkOf_p, lItems_lst, eNeg_ap, eIf_ap, aNil_ap, aCons_ap, eTup_ap, eLst_ap, eLstO_ap, eB_ap, eCall_ap, eMth_ap, eIsi_ap, eSl_ap, oNone_ap, oSome_ap, eLc_ap, sSeq_ap, sNil_ap, sBrk_ap, sCnt_ap, sExpr_ap, rtO_some, sRetR_ap, sRetN_ap, sIf_ap, sSet_ap, nxG_ok, sAsg_ap, sAug_ap, gNm_ap, sFor_ap, iRgA_ap, iRgB_ap, iTpl_ap, iLst_ap, restD_p', restAll_nil, restAll_cons, gAdd_int, gAdd_str, gAdd_tup, gAdd_lst, gAddI_int, gSub_int, gMul_int, gMod_int, gFdv_int, gPow_int, gLt_int, gLe_int, gGt_int, gGe_int, gEq_int, gEq_str, gEq_bl, atI_nat', atI_0, atI_1, atI_2, atI_3, atI_4, atI_5, gIx_tup, gIx_lst, gIx_scr, gIx_ob, obL_lst, obL_fz, gLen_tup, gLen_lst, gLen_scr, gLen_ob, gToInt_int, gToInt_bl, gToStr_int, truD_bl, gMin2_int, gMax2_int, isLst_ob, isLst_lst, obO_lst, oLst_ob, appO_some, gApp_ap, gSetL_ap, okE_some, setL_ob, ixN_0, ixN_1, sizeLine_val, rngL_length, List.set_cons_zero, List.set_cons_succ, List.getElem?_cons_zero, List.getElem?_cons_succ, Option.join_some, Option.map_some, Option.bind_some, List.length_cons, List.length_nil, Option.isSome_some, if_true, if_false, Bool.false_eq_true, Bool.false_xor, Bool.true_xor, and_self, Nat.reduceAdd, Nat.reduceLeDiff, reduceIte, List.append_nil, Bool.not_true, Bool.not_false, bYes_ap, gIsN_ap, isNoneD_int, isNoneD_none, Bool.not_not, List.length_map, hF]
      refine draw_wp (n := T.length + 5) (b := x) (by simp) hx (by decide) (cl2 hx) fun v x2 h0 h1' hx2 => ?_
      by_cases hv : v = 0
      · subst hv
        have a1 : atI ((A ++ [r]).map fun r => D.p r.py) (-1) = some (.p r.py) := by
          unfold atI
          rw [List.length_map, List.length_append, List.length_singleton, ixN_m1]
          simp
        simp -implicitDefEqProofs only [WE_ok, WE_bind, WE_ite, WE_no, WS_nx, WS_rt, WS_bk, WS_ct, WS_lift, WS_seq, WS_ite, oRs_some, eVar_ap, eC_ap, eBin_ap, isB_bl, asB_ap, bAnd_ap, bOr_ap, bNot_ap, bTru_ap, eAnd_wp, eOr_wp, eNot_wp, andR_bl, orR_bl, notR_bl, decide_eq_true_eq, gAny_lst, gAll_lst, gSum_lst, chkOf_p, lItems_lst, eNeg_ap, eIf_ap, aNil_ap, aCons_ap, eTup_ap, eLst_ap, eLstO_ap, eB_ap, eCall_ap, eMth_ap, eIsi_ap, eSl_ap, oNone_ap, oSome_ap, eLc_ap, sSeq_ap, sNil_ap, sBrk_ap, sCnt_ap, sExpr_ap, rtO_some, sRetR_ap, sRetN_ap, sIf_ap, sSet_ap, nxG_ok, sAsg_ap, sAug_ap, gNm_ap, sFor_ap, iRgA_ap, iRgB_ap, iTpl_ap, iLst_ap, restD_p', restAll_nil, restAll_cons, gAdd_int, gAdd_str, gAdd_tup, gAdd_lst, gAddI_int, gSub_int, gMul_int, gMod_int, gFdv_int, gPow_int, gLt_int, gLe_int, gGt_int, gGe_int, gEq_int, gEq_str, gEq_bl, atI_nat', atI_0, atI_1, atI_2, atI_3, atI_4, atI_5, gIx_tup, gIx_lst, gIx_scr, gIx_ob, obL_lst, obL_fz, gLen_tup, gLen_lst, gLen_scr, gLen_ob, gToInt_int, gToInt_bl, gToStr_int, truD_bl, gMin2_int, gMax2_int, isLst_ob, isLst_lst, obO_lst, oLst_ob, appO_some, gApp_ap, gSetL_ap, okE_some, setL_ob, ixN_0, ixN_1, sizeLine_val, rngL_length, List.set_cons_zero, List.set_cons_succ, List.getElem?_cons_zero, List.getElem?_cons_succ, Option.join_some, Option.map_some, Option.bind_some, List.length_cons, List.length_nil, Option.isSome_some, if_true, if_false, Bool.false_eq_true, Bool.false_xor, Bool.true_xor, and_self, Nat.reduceAdd, Nat.reduceLeDiff, reduceIte, List.append_nil, Bool.not_true, Bool.not_false, bYes_ap, gIsN_ap, isNoneD_int, isNoneD_none, Bool.not_not, last_set, beq_self_eq_true, a1, gr0]
        refine draw_wp (n := T.length + 5) (b := x2) (by simp) hx2 (by decide) (cl2 hx2) fun v x3 h30 h31 hx3 => ?_
        obtain ⟨v, rfl⟩ := Int.eq_ofNat_of_zero_le h30
        have hm : v % F.length < F.length := Nat.mod_lt _ (by omega)
        have ef : F[v % F.length]? = some F[v % F.length] := List.getElem?_eq_getElem hm
        have evm : (v : Int) % (F.length : Int) = ((v % F.length : Nat) : Int) := by simp
        have iX : ixN (List.map (fun r => D.p r.py) (A ++ [r])).length (-1) = some A.length := by
          rw [List.length_map, List.length_append, List.length_singleton, ixN_m1]
        simp -implicitDefEqProofs only [WE_ok, WE_bind, WE_ite, WE_no, WS_nx, WS_rt, WS_bk, WS_ct, WS_lift, WS_seq, WS_ite, oRs_some, eVar_ap, eC_ap, eBin_ap, isB_bl, asB_ap, bAnd_ap, bOr_ap, bNot_ap, bTru_ap, eAnd_wp, eOr_wp, eNot_wp, andR_bl, orR_bl, notR_bl, decide_eq_true_eq, gAny_lst, gAll_lst, gSum_lst, chkOf_p, lItems_lst, eNeg_ap, eIf_ap, aNil_ap, aCons_ap, eTup_ap, eLst_ap, eLstO_ap, eB_ap, eCall_ap, eMth_ap, eIsi_ap, eSl_ap, oNone_ap, oSome_ap, eLc_ap, sSeq_ap, sNil_ap, sBrk_ap, sCnt_ap, sExpr_ap, rtO_some, sRetR_ap, sRetN_ap, sIf_ap, sSet_ap, nxG_ok, sAsg_ap, sAug_ap, gNm_ap, sFor_ap, iRgA_ap, iRgB_ap, iTpl_ap, iLst_ap, restD_p', restAll_nil, restAll_cons, gAdd_int, gAdd_str, gAdd_tup, gAdd_lst, gAddI_int, gSub_int, gMul_int, gMod_int, gFdv_int, gPow_int, gLt_int, gLe_int, gGt_int, gGe_int, gEq_int, gEq_str, gEq_bl, atI_nat', atI_0, atI_1, atI_2, atI_3, atI_4, atI_5, gIx_tup, gIx_lst, gIx_scr, gIx_ob, obL_lst, obL_fz, gLen_tup, gLen_lst, gLen_scr, gLen_ob, gToInt_int, gToInt_bl, gToStr_int, truD_bl, gMin2_int, gMax2_int, isLst_ob, isLst_lst, obO_lst, oLst_ob, appO_some, gApp_ap, gSetL_ap, okE_some, setL_ob, ixN_0, ixN_1, sizeLine_val, rngL_length, List.set_cons_zero, List.set_cons_succ, List.getElem?_cons_zero, List.getElem?_cons_succ, Option.join_some, Option.map_some, Option.bind_some, List.length_cons, List.length_nil, Option.isSome_some, if_true, if_false, Bool.false_eq_true, Bool.false_xor, Bool.true_xor, and_self, Nat.reduceAdd, Nat.reduceLeDiff, reduceIte, List.append_nil, Bool.not_true, Bool.not_false, bYes_ap, gIsN_ap, isNoneD_int, isNoneD_none, Bool.not_not, last_set, List.length_map, hF, evm, List.getElem?_map, ef, sl_rg, List.cons_append, List.nil_append]
        have iX2 : ixN (A ++ [r]).length (-1) = some A.length := by
          rw [List.length_append, List.length_singleton, ixN_m1]
        simp -implicitDefEqProofs only [WE_ok, WE_bind, WE_ite, WE_no, WS_nx, WS_rt, WS_bk, WS_ct, WS_lift, WS_seq, WS_ite, oRs_some, eVar_ap, eC_ap, eBin_ap, isB_bl, asB_ap, bAnd_ap, bOr_ap, bNot_ap, bTru_ap, eAnd_wp, eOr_wp, eNot_wp, andR_bl, orR_bl, notR_bl, decide_eq_true_eq, gAny_lst, gAll_lst, gSum_lst, chkOf_p, lItems_lst, eNeg_ap, eIf_ap, aNil_ap, aCons_ap, eTup_ap, eLst_ap, eLstO_ap, eB_ap, eCall_ap, eMth_ap, eIsi_ap, eSl_ap, oNone_ap, oSome_ap, eLc_ap, sSeq_ap, sNil_ap, sBrk_ap, sCnt_ap, sExpr_ap, rtO_some, sRetR_ap, sRetN_ap, sIf_ap, sSet_ap, nxG_ok, sAsg_ap, sAug_ap, gNm_ap, sFor_ap, iRgA_ap, iRgB_ap, iTpl_ap, iLst_ap, restD_p', restAll_nil, restAll_cons, gAdd_int, gAdd_str, gAdd_tup, gAdd_lst, gAddI_int, gSub_int, gMul_int, gMod_int, gFdv_int, gPow_int, gLt_int, gLe_int, gGt_int, gGe_int, gEq_int, gEq_str, gEq_bl, atI_nat', atI_0, atI_1, atI_2, atI_3, atI_4, atI_5, gIx_tup, gIx_lst, gIx_scr, gIx_ob, obL_lst, obL_fz, gLen_tup, gLen_lst, gLen_scr, gLen_ob, gToInt_int, gToInt_bl, gToStr_int, truD_bl, gMin2_int, gMax2_int, isLst_ob, isLst_lst, obO_lst, oLst_ob, appO_some, gApp_ap, gSetL_ap, okE_some, setL_ob, ixN_0, ixN_1, sizeLine_val, rngL_length, List.set_cons_zero, List.set_cons_succ, List.getElem?_cons_zero, List.getElem?_cons_succ, Option.join_some, Option.map_some, Option.bind_some, List.length_cons, List.length_nil, Option.isSome_some, if_true, if_false, Bool.false_eq_true, Bool.false_xor, Bool.true_xor, and_self, Nat.reduceAdd, Nat.reduceLeDiff, reduceIte, List.append_nil, Bool.not_true, Bool.not_false, bYes_ap, gIsN_ap, isNoneD_int, isNoneD_none, Bool.not_not, iX2, Rs.bind_ok, List.length_map]
        refine ⟨by trivial, A ++ [⟨r.p, F[v % F.length].x, F[v % F.length].y, F[v % F.length].w, F[v % F.length].h⟩], T ++ [x3], _, _, iA.snoc hr, by simp; omega, clS_app cT (clS_one hx3.cl), ?_, by trivial⟩
        simp [rgL, Rg.py]
      · have hv0 : (v == 0) = false := beq_eq_false_iff_ne.mpr hv
        simp -implicitDefEqProofs only [WE_ok, WE_bind, WE_ite, WE_no, WS_nx, WS_rt, WS_bk, WS_ct, WS_lift, WS_seq, WS_ite, oRs_some, eVar_ap, eC_ap, eBin_ap, isB_bl, asB_ap, bAnd_ap, bOr_ap, bNot_ap, bTru_ap, eAnd_wp, eOr_wp, eNot_wp, andR_bl, orR_bl, notR_bl, decide_eq_true_eq, gAny_lst, gAll_lst, gSum_lst, chkOf_p, lItems_lst, eNeg_ap, eIf_ap, aNil_ap, aCons_ap, eTup_ap, eLst_ap, eLstO_ap, eB_ap, eCall_ap, eMth_ap, eIsi_ap, eSl_ap, oNone_ap, oSome_ap, eLc_ap, sSeq_ap, sNil_ap, sBrk_ap, sCnt_ap, sExpr_ap, rtO_some, sRetR_ap, sRetN_ap, sIf_ap, sSet_ap, nxG_ok, sAsg_ap, sAug_ap, gNm_ap, sFor_ap, iRgA_ap, iRgB_ap, iTpl_ap, iLst_ap, restD_p', restAll_nil, restAll_cons, gAdd_int, gAdd_str, gAdd_tup, gAdd_lst, gAddI_int, gSub_int, gMul_int, gMod_int, gFdv_int, gPow_int, gLt_int, gLe_int, gGt_int, gGe_int, gEq_int, gEq_str, gEq_bl, atI_nat', atI_0, atI_1, atI_2, atI_3, atI_4, atI_5, gIx_tup, gIx_lst, gIx_scr, gIx_ob, obL_lst, obL_fz, gLen_tup, gLen_lst, gLen_scr, gLen_ob, gToInt_int, gToInt_bl, gToStr_int, truD_bl, gMin2_int, gMax2_int, isLst_ob, isLst_lst, obO_lst, oLst_ob, appO_some, gApp_ap, gSetL_ap, okE_some, setL_ob, ixN_0, ixN_1, sizeLine_val, rngL_length, List.set_cons_zero, List.set_cons_succ, List.getElem?_cons_zero, List.getElem?_cons_succ, Option.join_some, Option.map_some, Option.bind_some, List.length_cons, List.length_nil, Option.isSome_some, if_true, if_false, Bool.false_eq_true, Bool.false_xor, Bool.true_xor, and_self, Nat.reduceAdd, Nat.reduceLeDiff, reduceIte, List.append_nil, Bool.not_true, Bool.not_false, bYes_ap, gIsN_ap, isNoneD_int, isNoneD_none, Bool.not_not, last_set, hv0]
        exact ⟨by trivial, A ++ [r], T ++ [x2], _, _, iA.snoc hr, by simp; omega, clS_app cT (clS_one hx2.cl), by trivial, by trivial⟩
    · simp -implicitDefEqProofs only [WE_ok, WE_bind, WE_ite, WE_no, WS_nx, WS_rt, WS_bk, WS_ct, WS_lift, WS_seq, WS_ite, oRs_some, eVar_ap, eC_ap, eBin_ap, isB_bl, asB_ap, bAnd_ap, bOr_ap, bNot_ap, bTru_ap, eAnd_wp, eOr_wp, eNot_wp, andR_bl, orR_bl, notR_bl, decide_eq_true_eq, gAny_lst, gAll_lst, gSum_lst, chkOf_p, lItems_lst, eNeg_ap, eIf_ap, aNil_ap, aCons_ap, eTup_ap, eLst_ap, eLstO_ap, eB_ap, eCall_ap, eMth_ap, eIsi_ap, eSl_ap, oNone_ap, oSome_ap, eLc_ap, sSeq_ap, sNil_ap, sBrk_ap, sCnt_ap, sExpr_ap, rtO_some, sRetR_ap, sRetN_ap, sIf_ap, sSet_ap, nxG_ok, sAsg_ap, sAug_ap, gNm_ap, sFor_ap, iRgA_ap, iRgB_ap, iTpl_ap, iLst_ap, restD_p', restAll_nil, restAll_cons, gAdd_int, gAdd_str, gAdd_tup, gAdd_lst, gAddI_int, gSub_int, gMul_int, gMod_int, gFdv_int, gPow_int, gLt_int, gLe_int, gGt_int, gGe_int, gEq_int, gEq_str, gEq_bl, atI_nat', atI_0, atI_1, atI_2, atI_3, atI_4, atI_5, gIx_tup, gIx_lst, gIx_scr, gIx_ob, obL_lst, obL_fz, gLen_tup, gLen_lst, gLen_scr, gLen_ob, gToInt_int, gToInt_bl, gToStr_int, truD_bl, gMin2_int, gMax2_int, isLst_ob, isLst_lst, obO_lst, oLst_ob, appO_some, gApp_ap, gSetL_ap, okE_some, setL_ob, ixN_0, ixN_1, sizeLine_val, rngL_length, List.set_cons_zero, List.set_cons_succ, List.getElem?_cons_zero, List.getElem?_cons_succ, Option.join_some, Option.map_some, Option.bind_some, List.length_cons, List.length_nil, Option.isSome_some, if_true, if_false, Bool.false_eq_true, Bool.false_xor, Bool.true_xor, and_self, Nat.reduceAdd, Nat.reduceLeDiff, reduceIte, List.append_nil, Bool.not_true, Bool.not_false, bYes_ap, gIsN_ap, isNoneD_int, isNoneD_none, Bool.not_not, List.length_map, hF]
      exact ⟨by trivial, A ++ [r], T ++ [x], _, _, iA.snoc hr, by simp; omega, clS_app cT (clS_one hx.cl), by trivial, by trivial⟩
  · rintro ρ S ⟨A, T, v6, v11, iA, lA, cT, rfl, rfl⟩
    rw [rngL_length] at lA
    exact ⟨A, T, v6, v11, iA, by omega, cT, rfl, rfl⟩
theorem isi_bool {b : Bool} {S : Sto} : tyD S (.p (.bool b)) = some "bool" := rfl
theorem kit_bool : kitB "bool" "bool" = some true := by decide +kernel
theorem loop3_ok {S : Sto} {F B A : List Rg} {v6 v8 v9 v10 v11 : Option D} {chk : Sto → Prop} (hc : ClS 0 S) (hk : chk S) (hF : F.length < 1000000) (iA : inP Ps.length A) :
    WS (forL (gNm 9) (sSeq (sSet 12 (eCall 3 G_allowed (aCons (eVar 2) (aCons (eVar 9) (aCons (eVar 7) (aNil)))))) (sIf (bOr (bNot (bTru (eIsi "bool" (eVar 12)))) (asB (eBin (gEq true) (eVar 12) (eCall 3 G_law_allowed (aCons (eVar 2) (aCons (eLst (aCons (eVar 9) (aNil))) (aCons (eVar 7) (aNil)))))))) (sRetR (eC (.bool false))) (sNil))) chk (A.map fun r => D.p r.py) (R0 ns Ps pg v6 (some (.p (wishD F B))) v8 v9 v10 v11 none) S)
      (Pf fun ρ S' => S' = S ∧ ∃ v9 v12, ρ = R0 ns Ps pg v6 (some (.p (wishD F B))) v8 v9 v10 v11 v12) := by
  refine WS_for (fun i ρ S' => S' = S ∧ ∃ v9 v12, ρ = R0 ns Ps pg v6 (some (.p (wishD F B))) v8 v9 v10 v11 v12) _ 0 _ _ ⟨rfl, _, _, rfl⟩ ?_ ?_
  · rintro i d ρ S' hd ⟨rfl, v9, v12, rfl⟩
    rw [List.getElem?_map] at hd
    cases er : A[i]? with
    | none => rw [er] at hd; cases hd
    | some r =>
      rw [er] at hd
      cases hd
      have hr := iA r (List.mem_of_getElem? er)
      have ek : Ps[r.p]? = some Ps[r.p] := List.getElem?_eq_getElem hr
      generalize Ps[r.p] = pt at ek
      simp -implicitDefEqProofs only [WE_ok, WE_bind, WE_ite, WE_no, WS_nx, WS_rt, WS_bk, WS_ct, WS_lift, WS_seq, WS_ite, oRs_some, eVar_ap, eC_ap, eBin_ap, isB_bl, asB_ap, bAnd_ap, bOr_ap, bNot_ap, bTru_ap, eAnd_wp, eOr_wp, eNot_wp, andR_bl, orR_bl, notR_bl, decide_eq_true_eq, gAny_lst, gAll_lst, gSum_lst, chkOf_p, lItems_lst, eNeg_ap, eIf_ap, aNil_ap, aCons_ap, eTup_ap, eLst_ap, eLstO_ap, eB_ap, eCall_ap, eMth_ap, eIsi_ap, eSl_ap, oNone_ap, oSome_ap, eLc_ap, sSeq_ap, sNil_ap, sBrk_ap, sCnt_ap, sExpr_ap, rtO_some, sRetR_ap, sRetN_ap, sIf_ap, sSet_ap, nxG_ok, sAsg_ap, sAug_ap, gNm_ap, sFor_ap, iRgA_ap, iRgB_ap, iTpl_ap, iLst_ap, restD_p', restAll_nil, restAll_cons, gAdd_int, gAdd_str, gAdd_tup, gAdd_lst, gAddI_int, gSub_int, gMul_int, gMod_int, gFdv_int, gPow_int, gLt_int, gLe_int, gGt_int, gGe_int, gEq_int, gEq_str, gEq_bl, atI_nat', atI_0, atI_1, atI_2, atI_3, atI_4, atI_5, gIx_tup, gIx_lst, gIx_scr, gIx_ob, obL_lst, obL_fz, gLen_tup, gLen_lst, gLen_scr, gLen_ob, gToInt_int, gToInt_bl, gToStr_int, truD_bl, gMin2_int, gMax2_int, isLst_ob, isLst_lst, obO_lst, oLst_ob, appO_some, gApp_ap, gSetL_ap, okE_some, setL_ob, ixN_0, ixN_1, sizeLine_val, rngL_length, List.set_cons_zero, List.set_cons_succ, List.getElem?_cons_zero, List.getElem?_cons_succ, Option.join_some, Option.map_some, Option.bind_some, List.length_cons, List.length_nil, Option.isSome_some, if_true, if_false, Bool.false_eq_true, Bool.false_xor, Bool.true_xor, and_self, Nat.reduceAdd, Nat.reduceLeDiff, reduceIte, List.append_nil, Bool.not_true, Bool.not_false, bYes_ap, gIsN_ap, isNoneD_int, isNoneD_none, Bool.not_not]
      refine allowed_wp ek hF hc ?_
      simp -implicitDefEqProofs only [WE_ok, WE_bind, WE_ite, WE_no, WS_nx, WS_rt, WS_bk, WS_ct, WS_lift, WS_seq, WS_ite, oRs_some, eVar_ap, eC_ap, eBin_ap, isB_bl, asB_ap, bAnd_ap, bOr_ap, bNot_ap, bTru_ap, eAnd_wp, eOr_wp, eNot_wp, andR_bl, orR_bl, notR_bl, decide_eq_true_eq, gAny_lst, gAll_lst, gSum_lst, chkOf_p, lItems_lst, eNeg_ap, eIf_ap, aNil_ap, aCons_ap, eTup_ap, eLst_ap, eLstO_ap, eB_ap, eCall_ap, eMth_ap, eIsi_ap, eSl_ap, oNone_ap, oSome_ap, eLc_ap, sSeq_ap, sNil_ap, sBrk_ap, sCnt_ap, sExpr_ap, rtO_some, sRetR_ap, sRetN_ap, sIf_ap, sSet_ap, nxG_ok, sAsg_ap, sAug_ap, gNm_ap, sFor_ap, iRgA_ap, iRgB_ap, iTpl_ap, iLst_ap, restD_p', restAll_nil, restAll_cons, gAdd_int, gAdd_str, gAdd_tup, gAdd_lst, gAddI_int, gSub_int, gMul_int, gMod_int, gFdv_int, gPow_int, gLt_int, gLe_int, gGt_int, gGe_int, gEq_int, gEq_str, gEq_bl, atI_nat', atI_0, atI_1, atI_2, atI_3, atI_4, atI_5, gIx_tup, gIx_lst, gIx_scr, gIx_ob, obL_lst, obL_fz, gLen_tup, gLen_lst, gLen_scr, gLen_ob, gToInt_int, gToInt_bl, gToStr_int, truD_bl, gMin2_int, gMax2_int, isLst_ob, isLst_lst, obO_lst, oLst_ob, appO_some, gApp_ap, gSetL_ap, okE_some, setL_ob, ixN_0, ixN_1, sizeLine_val, rngL_length, List.set_cons_zero, List.set_cons_succ, List.getElem?_cons_zero, List.getElem?_cons_succ, Option.join_some, Option.map_some, Option.bind_some, List.length_cons, List.length_nil, Option.isSome_some, if_true, if_false, Bool.false_eq_true, Bool.false_xor, Bool.true_xor, and_self, Nat.reduceAdd, Nat.reduceLeDiff, reduceIte, List.append_nil, Bool.not_true, Bool.not_false, bYes_ap, gIsN_ap, isNoneD_int, isNoneD_none, Bool.not_not, isi_bool, kit_bool]
      refine lawallowed_wp ek hF hc ?_
      simp -implicitDefEqProofs only [WE_ok, WE_bind, WE_ite, WE_no, WS_nx, WS_rt, WS_bk, WS_ct, WS_lift, WS_seq, WS_ite, oRs_some, eVar_ap, eC_ap, eBin_ap, isB_bl, asB_ap, bAnd_ap, bOr_ap, bNot_ap, bTru_ap, eAnd_wp, eOr_wp, eNot_wp, andR_bl, orR_bl, notR_bl, decide_eq_true_eq, gAny_lst, gAll_lst, gSum_lst, chkOf_p, lItems_lst, eNeg_ap, eIf_ap, aNil_ap, aCons_ap, eTup_ap, eLst_ap, eLstO_ap, eB_ap, eCall_ap, eMth_ap, eIsi_ap, eSl_ap, oNone_ap, oSome_ap, eLc_ap, sSeq_ap, sNil_ap, sBrk_ap, sCnt_ap, sExpr_ap, rtO_some, sRetR_ap, sRetN_ap, sIf_ap, sSet_ap, nxG_ok, sAsg_ap, sAug_ap, gNm_ap, sFor_ap, iRgA_ap, iRgB_ap, iTpl_ap, iLst_ap, restD_p', restAll_nil, restAll_cons, gAdd_int, gAdd_str, gAdd_tup, gAdd_lst, gAddI_int, gSub_int, gMul_int, gMod_int, gFdv_int, gPow_int, gLt_int, gLe_int, gGt_int, gGe_int, gEq_int, gEq_str, gEq_bl, atI_nat', atI_0, atI_1, atI_2, atI_3, atI_4, atI_5, gIx_tup, gIx_lst, gIx_scr, gIx_ob, obL_lst, obL_fz, gLen_tup, gLen_lst, gLen_scr, gLen_ob, gToInt_int, gToInt_bl, gToStr_int, truD_bl, gMin2_int, gMax2_int, isLst_ob, isLst_lst, obO_lst, oLst_ob, appO_some, gApp_ap, gSetL_ap, okE_some, setL_ob, ixN_0, ixN_1, sizeLine_val, rngL_length, List.set_cons_zero, List.set_cons_succ, List.getElem?_cons_zero, List.getElem?_cons_succ, Option.join_some, Option.map_some, Option.bind_some, List.length_cons, List.length_nil, Option.isSome_some, if_true, if_false, Bool.false_eq_true, Bool.false_xor, Bool.true_xor, and_self, Nat.reduceAdd, Nat.reduceLeDiff, reduceIte, List.append_nil, Bool.not_true, Bool.not_false, bYes_ap, gIsN_ap, isNoneD_int, isNoneD_none, Bool.not_not, beq_self_eq_true]
      exact ⟨hk, by trivial, _, _, rfl⟩
  · rintro ρ S' ⟨rfl, v9, v12, rfl⟩
    exact ⟨rfl, _, _, rfl⟩
end
theorem law_true (ns : List Int) (hl : ns.length ≤ 63) : ∃ S', G_law [.scr ns] [] = .ok (.bl true) S' := by
  refine WE_true ?_
  refine WE_def (fun d _ => d = .bl true) ?_ (fun d S' h => ⟨_, [], S', h, rfl, rfl, clS_nil, rfl⟩)
  rw [show start0 NN_law [.scr ns] = [some (.scr ns), none, none, none, none, none, none, none, none, none, none, none, none] from rfl]
  unfold B_law
  refine WS_cut (fun ρ S => ∃ b, IsBox b ∧ S = [b] ∧ ρ = [some (.scr ns), some (.ob 0), none, none, none, none, none, none, none, none, none, none, none]) ?_ ?_
  · simp -implicitDefEqProofs only [WE_ok, WE_bind, WE_ite, WE_no, WS_nx, WS_rt, WS_bk, WS_ct, WS_lift, WS_seq, WS_ite, oRs_some, eVar_ap, eC_ap, eBin_ap, isB_bl, asB_ap, bAnd_ap, bOr_ap, bNot_ap, bTru_ap, eAnd_wp, eOr_wp, eNot_wp, andR_bl, orR_bl, notR_bl, decide_eq_true_eq, gAny_lst, gAll_lst, gSum_lst, chkOf_p, lItems_lst, eNeg_ap, eIf_ap, aNil_ap, aCons_ap, eTup_ap, eLst_ap, eLstO_ap, eB_ap, eCall_ap, eMth_ap, eIsi_ap, eSl_ap, oNone_ap, oSome_ap, eLc_ap, sSeq_ap, sNil_ap, sBrk_ap, sCnt_ap, sExpr_ap, rtO_some, sRetR_ap, sRetN_ap, sIf_ap, sSet_ap, nxG_ok, sAsg_ap, sAug_ap, gNm_ap, sFor_ap, iRgA_ap, iRgB_ap, iTpl_ap, iLst_ap, restD_p', restAll_nil, restAll_cons, gAdd_int, gAdd_str, gAdd_tup, gAdd_lst, gAddI_int, gSub_int, gMul_int, gMod_int, gFdv_int, gPow_int, gLt_int, gLe_int, gGt_int, gGe_int, gEq_int, gEq_str, gEq_bl, atI_nat', atI_0, atI_1, atI_2, atI_3, atI_4, atI_5, gIx_tup, gIx_lst, gIx_scr, gIx_ob, obL_lst, obL_fz, gLen_tup, gLen_lst, gLen_scr, gLen_ob, gToInt_int, gToInt_bl, gToStr_int, truD_bl, gMin2_int, gMax2_int, isLst_ob, isLst_lst, obO_lst, oLst_ob, appO_some, gApp_ap, gSetL_ap, okE_some, setL_ob, ixN_0, ixN_1, sizeLine_val, rngL_length, List.set_cons_zero, List.set_cons_succ, List.getElem?_cons_zero, List.getElem?_cons_succ, Option.join_some, Option.map_some, Option.bind_some, List.length_cons, List.length_nil, Option.isSome_some, if_true, if_false, Bool.false_eq_true, Bool.false_xor, Bool.true_xor, and_self, Nat.reduceAdd, Nat.reduceLeDiff, reduceIte, List.append_nil, Bool.not_true, Bool.not_false, bYes_ap, gIsN_ap, isNoneD_int, isNoneD_none, Bool.not_not]
    refine digits_wp (lo := 0) (hi := 16) clS_nil (by decide) (by decide) fun dg => ?_
    simp -implicitDefEqProofs only [WE_ok, WE_bind, WE_ite, WE_no, WS_nx, WS_rt, WS_bk, WS_ct, WS_lift, WS_seq, WS_ite, oRs_some, eVar_ap, eC_ap, eBin_ap, isB_bl, asB_ap, bAnd_ap, bOr_ap, bNot_ap, bTru_ap, eAnd_wp, eOr_wp, eNot_wp, andR_bl, orR_bl, notR_bl, decide_eq_true_eq, gAny_lst, gAll_lst, gSum_lst, chkOf_p, lItems_lst, eNeg_ap, eIf_ap, aNil_ap, aCons_ap, eTup_ap, eLst_ap, eLstO_ap, eB_ap, eCall_ap, eMth_ap, eIsi_ap, eSl_ap, oNone_ap, oSome_ap, eLc_ap, sSeq_ap, sNil_ap, sBrk_ap, sCnt_ap, sExpr_ap, rtO_some, sRetR_ap, sRetN_ap, sIf_ap, sSet_ap, nxG_ok, sAsg_ap, sAug_ap, gNm_ap, sFor_ap, iRgA_ap, iRgB_ap, iTpl_ap, iLst_ap, restD_p', restAll_nil, restAll_cons, gAdd_int, gAdd_str, gAdd_tup, gAdd_lst, gAddI_int, gSub_int, gMul_int, gMod_int, gFdv_int, gPow_int, gLt_int, gLe_int, gGt_int, gGe_int, gEq_int, gEq_str, gEq_bl, atI_nat', atI_0, atI_1, atI_2, atI_3, atI_4, atI_5, gIx_tup, gIx_lst, gIx_scr, gIx_ob, obL_lst, obL_fz, gLen_tup, gLen_lst, gLen_scr, gLen_ob, gToInt_int, gToInt_bl, gToStr_int, truD_bl, gMin2_int, gMax2_int, isLst_ob, isLst_lst, obO_lst, oLst_ob, appO_some, gApp_ap, gSetL_ap, okE_some, setL_ob, ixN_0, ixN_1, sizeLine_val, rngL_length, List.set_cons_zero, List.set_cons_succ, List.getElem?_cons_zero, List.getElem?_cons_succ, Option.join_some, Option.map_some, Option.bind_some, List.length_cons, List.length_nil, Option.isSome_some, if_true, if_false, Bool.false_eq_true, Bool.false_xor, Bool.true_xor, and_self, Nat.reduceAdd, Nat.reduceLeDiff, reduceIte, List.append_nil, Bool.not_true, Bool.not_false, bYes_ap, gIsN_ap, isNoneD_int, isNoneD_none, Bool.not_not, List.nil_append]
    exact ⟨_, ⟨dg, 0, rfl⟩, by trivial, by trivial⟩
  rintro ρ S ⟨b, hb, rfl, rfl⟩
  refine WS_cut (fun ρ S => ∃ b Ps, ∃ k : Nat, IsBox b ∧ PsOk 3 k Ps ∧ k ≤ 2 ∧ S = [b] ∧ ρ = [some (.scr ns), some (.ob 0), some (.p (.tuple (Ps.map Pt.py))), none, none, none, none, none, none, none, none, none, none]) ?_ ?_
  · simp -implicitDefEqProofs only [WE_ok, WE_bind, WE_ite, WE_no, WS_nx, WS_rt, WS_bk, WS_ct, WS_lift, WS_seq, WS_ite, oRs_some, eVar_ap, eC_ap, eBin_ap, isB_bl, asB_ap, bAnd_ap, bOr_ap, bNot_ap, bTru_ap, eAnd_wp, eOr_wp, eNot_wp, andR_bl, orR_bl, notR_bl, decide_eq_true_eq, gAny_lst, gAll_lst, gSum_lst, chkOf_p, lItems_lst, eNeg_ap, eIf_ap, aNil_ap, aCons_ap, eTup_ap, eLst_ap, eLstO_ap, eB_ap, eCall_ap, eMth_ap, eIsi_ap, eSl_ap, oNone_ap, oSome_ap, eLc_ap, sSeq_ap, sNil_ap, sBrk_ap, sCnt_ap, sExpr_ap, rtO_some, sRetR_ap, sRetN_ap, sIf_ap, sSet_ap, nxG_ok, sAsg_ap, sAug_ap, gNm_ap, sFor_ap, iRgA_ap, iRgB_ap, iTpl_ap, iLst_ap, restD_p', restAll_nil, restAll_cons, gAdd_int, gAdd_str, gAdd_tup, gAdd_lst, gAddI_int, gSub_int, gMul_int, gMod_int, gFdv_int, gPow_int, gLt_int, gLe_int, gGt_int, gGe_int, gEq_int, gEq_str, gEq_bl, atI_nat', atI_0, atI_1, atI_2, atI_3, atI_4, atI_5, gIx_tup, gIx_lst, gIx_scr, gIx_ob, obL_lst, obL_fz, gLen_tup, gLen_lst, gLen_scr, gLen_ob, gToInt_int, gToInt_bl, gToStr_int, truD_bl, gMin2_int, gMax2_int, isLst_ob, isLst_lst, obO_lst, oLst_ob, appO_some, gApp_ap, gSetL_ap, okE_some, setL_ob, ixN_0, ixN_1, sizeLine_val, rngL_length, List.set_cons_zero, List.set_cons_succ, List.getElem?_cons_zero, List.getElem?_cons_succ, Option.join_some, Option.map_some, Option.bind_some, List.length_cons, List.length_nil, Option.isSome_some, if_true, if_false, Bool.false_eq_true, Bool.false_xor, Bool.true_xor, and_self, Nat.reduceAdd, Nat.reduceLeDiff, reduceIte, List.append_nil, Bool.not_true, Bool.not_false, bYes_ap, gIsN_ap, isNoneD_int, isNoneD_none, Bool.not_not]
    refine draw_wp (n := 0) rfl hb (by decide) (clS_one hb.cl) fun v b1 h0 h1 hb1 => ?_
    obtain ⟨v, rfl⟩ := Int.eq_ofNat_of_zero_le h0
    simp -implicitDefEqProofs only [WE_ok, WE_bind, WE_ite, WE_no, WS_nx, WS_rt, WS_bk, WS_ct, WS_lift, WS_seq, WS_ite, oRs_some, eVar_ap, eC_ap, eBin_ap, isB_bl, asB_ap, bAnd_ap, bOr_ap, bNot_ap, bTru_ap, eAnd_wp, eOr_wp, eNot_wp, andR_bl, orR_bl, notR_bl, decide_eq_true_eq, gAny_lst, gAll_lst, gSum_lst, chkOf_p, lItems_lst, eNeg_ap, eIf_ap, aNil_ap, aCons_ap, eTup_ap, eLst_ap, eLstO_ap, eB_ap, eCall_ap, eMth_ap, eIsi_ap, eSl_ap, oNone_ap, oSome_ap, eLc_ap, sSeq_ap, sNil_ap, sBrk_ap, sCnt_ap, sExpr_ap, rtO_some, sRetR_ap, sRetN_ap, sIf_ap, sSet_ap, nxG_ok, sAsg_ap, sAug_ap, gNm_ap, sFor_ap, iRgA_ap, iRgB_ap, iTpl_ap, iLst_ap, restD_p', restAll_nil, restAll_cons, gAdd_int, gAdd_str, gAdd_tup, gAdd_lst, gAddI_int, gSub_int, gMul_int, gMod_int, gFdv_int, gPow_int, gLt_int, gLe_int, gGt_int, gGe_int, gEq_int, gEq_str, gEq_bl, atI_nat', atI_0, atI_1, atI_2, atI_3, atI_4, atI_5, gIx_tup, gIx_lst, gIx_scr, gIx_ob, obL_lst, obL_fz, gLen_tup, gLen_lst, gLen_scr, gLen_ob, gToInt_int, gToInt_bl, gToStr_int, truD_bl, gMin2_int, gMax2_int, isLst_ob, isLst_lst, obO_lst, oLst_ob, appO_some, gApp_ap, gSetL_ap, okE_some, setL_ob, ixN_0, ixN_1, sizeLine_val, rngL_length, List.set_cons_zero, List.set_cons_succ, List.getElem?_cons_zero, List.getElem?_cons_succ, Option.join_some, Option.map_some, Option.bind_some, List.length_cons, List.length_nil, Option.isSome_some, if_true, if_false, Bool.false_eq_true, Bool.false_xor, Bool.true_xor, and_self, Nat.reduceAdd, Nat.reduceLeDiff, reduceIte, List.append_nil, Bool.not_true, Bool.not_false, bYes_ap, gIsN_ap, isNoneD_int, isNoneD_none, Bool.not_not]
    rw [show (1 + (v : Int)) = ((1 + v : Nat) : Int) by simp]
    refine parts_wp (wide := 3) (strips := 1 + v) (n := 0) rfl hb1 (clS_one hb1.cl) (by decide) (by decide) (by omega) fun b2 Ps hb2 hPs => ?_
    simp -implicitDefEqProofs only [WE_ok, WE_bind, WE_ite, WE_no, WS_nx, WS_rt, WS_bk, WS_ct, WS_lift, WS_seq, WS_ite, oRs_some, eVar_ap, eC_ap, eBin_ap, isB_bl, asB_ap, bAnd_ap, bOr_ap, bNot_ap, bTru_ap, eAnd_wp, eOr_wp, eNot_wp, andR_bl, orR_bl, notR_bl, decide_eq_true_eq, gAny_lst, gAll_lst, gSum_lst, chkOf_p, lItems_lst, eNeg_ap, eIf_ap, aNil_ap, aCons_ap, eTup_ap, eLst_ap, eLstO_ap, eB_ap, eCall_ap, eMth_ap, eIsi_ap, eSl_ap, oNone_ap, oSome_ap, eLc_ap, sSeq_ap, sNil_ap, sBrk_ap, sCnt_ap, sExpr_ap, rtO_some, sRetR_ap, sRetN_ap, sIf_ap, sSet_ap, nxG_ok, sAsg_ap, sAug_ap, gNm_ap, sFor_ap, iRgA_ap, iRgB_ap, iTpl_ap, iLst_ap, restD_p', restAll_nil, restAll_cons, gAdd_int, gAdd_str, gAdd_tup, gAdd_lst, gAddI_int, gSub_int, gMul_int, gMod_int, gFdv_int, gPow_int, gLt_int, gLe_int, gGt_int, gGe_int, gEq_int, gEq_str, gEq_bl, atI_nat', atI_0, atI_1, atI_2, atI_3, atI_4, atI_5, gIx_tup, gIx_lst, gIx_scr, gIx_ob, obL_lst, obL_fz, gLen_tup, gLen_lst, gLen_scr, gLen_ob, gToInt_int, gToInt_bl, gToStr_int, truD_bl, gMin2_int, gMax2_int, isLst_ob, isLst_lst, obO_lst, oLst_ob, appO_some, gApp_ap, gSetL_ap, okE_some, setL_ob, ixN_0, ixN_1, sizeLine_val, rngL_length, List.set_cons_zero, List.set_cons_succ, List.getElem?_cons_zero, List.getElem?_cons_succ, Option.join_some, Option.map_some, Option.bind_some, List.length_cons, List.length_nil, Option.isSome_some, if_true, if_false, Bool.false_eq_true, Bool.false_xor, Bool.true_xor, and_self, Nat.reduceAdd, Nat.reduceLeDiff, reduceIte, List.append_nil, Bool.not_true, Bool.not_false, bYes_ap, gIsN_ap, isNoneD_int, isNoneD_none, Bool.not_not]
    exact ⟨b2, Ps, 1 + v, hb2, hPs, by omega, by trivial, by trivial⟩
  rintro ρ S ⟨b, Ps, k, hb, hPs, hk2, rfl, rfl⟩
  have hg := hPs.g (by decide)
  have hPl := hPs.len
  refine WS_cut (fun ρ S => ∃ b1, IsBox b1 ∧ S = [b, b1] ∧ ρ = [some (.scr ns), some (.ob 1), some (.p (.tuple (Ps.map Pt.py))), none, none, none, none, none, none, none, none, none, none]) ?_ ?_
  · simp -implicitDefEqProofs only [WE_ok, WE_bind, WE_ite, WE_no, WS_nx, WS_rt, WS_bk, WS_ct, WS_lift, WS_seq, WS_ite, oRs_some, eVar_ap, eC_ap, eBin_ap, isB_bl, asB_ap, bAnd_ap, bOr_ap, bNot_ap, bTru_ap, eAnd_wp, eOr_wp, eNot_wp, andR_bl, orR_bl, notR_bl, decide_eq_true_eq, gAny_lst, gAll_lst, gSum_lst, chkOf_p, lItems_lst, eNeg_ap, eIf_ap, aNil_ap, aCons_ap, eTup_ap, eLst_ap, eLstO_ap, eB_ap, eCall_ap, eMth_ap, eIsi_ap, eSl_ap, oNone_ap, oSome_ap, eLc_ap, sSeq_ap, sNil_ap, sBrk_ap, sCnt_ap, sExpr_ap, rtO_some, sRetR_ap, sRetN_ap, sIf_ap, sSet_ap, nxG_ok, sAsg_ap, sAug_ap, gNm_ap, sFor_ap, iRgA_ap, iRgB_ap, iTpl_ap, iLst_ap, restD_p', restAll_nil, restAll_cons, gAdd_int, gAdd_str, gAdd_tup, gAdd_lst, gAddI_int, gSub_int, gMul_int, gMod_int, gFdv_int, gPow_int, gLt_int, gLe_int, gGt_int, gGe_int, gEq_int, gEq_str, gEq_bl, atI_nat', atI_0, atI_1, atI_2, atI_3, atI_4, atI_5, gIx_tup, gIx_lst, gIx_scr, gIx_ob, obL_lst, obL_fz, gLen_tup, gLen_lst, gLen_scr, gLen_ob, gToInt_int, gToInt_bl, gToStr_int, truD_bl, gMin2_int, gMax2_int, isLst_ob, isLst_lst, obO_lst, oLst_ob, appO_some, gApp_ap, gSetL_ap, okE_some, setL_ob, ixN_0, ixN_1, sizeLine_val, rngL_length, List.set_cons_zero, List.set_cons_succ, List.getElem?_cons_zero, List.getElem?_cons_succ, Option.join_some, Option.map_some, Option.bind_some, List.length_cons, List.length_nil, Option.isSome_some, if_true, if_false, Bool.false_eq_true, Bool.false_xor, Bool.true_xor, and_self, Nat.reduceAdd, Nat.reduceLeDiff, reduceIte, List.append_nil, Bool.not_true, Bool.not_false, bYes_ap, gIsN_ap, isNoneD_int, isNoneD_none, Bool.not_not]
    refine digits_wp (lo := 16) (hi := 28) (clS_one hb.cl) (by decide) (by decide) fun dg => ?_
    simp -implicitDefEqProofs only [WE_ok, WE_bind, WE_ite, WE_no, WS_nx, WS_rt, WS_bk, WS_ct, WS_lift, WS_seq, WS_ite, oRs_some, eVar_ap, eC_ap, eBin_ap, isB_bl, asB_ap, bAnd_ap, bOr_ap, bNot_ap, bTru_ap, eAnd_wp, eOr_wp, eNot_wp, andR_bl, orR_bl, notR_bl, decide_eq_true_eq, gAny_lst, gAll_lst, gSum_lst, chkOf_p, lItems_lst, eNeg_ap, eIf_ap, aNil_ap, aCons_ap, eTup_ap, eLst_ap, eLstO_ap, eB_ap, eCall_ap, eMth_ap, eIsi_ap, eSl_ap, oNone_ap, oSome_ap, eLc_ap, sSeq_ap, sNil_ap, sBrk_ap, sCnt_ap, sExpr_ap, rtO_some, sRetR_ap, sRetN_ap, sIf_ap, sSet_ap, nxG_ok, sAsg_ap, sAug_ap, gNm_ap, sFor_ap, iRgA_ap, iRgB_ap, iTpl_ap, iLst_ap, restD_p', restAll_nil, restAll_cons, gAdd_int, gAdd_str, gAdd_tup, gAdd_lst, gAddI_int, gSub_int, gMul_int, gMod_int, gFdv_int, gPow_int, gLt_int, gLe_int, gGt_int, gGe_int, gEq_int, gEq_str, gEq_bl, atI_nat', atI_0, atI_1, atI_2, atI_3, atI_4, atI_5, gIx_tup, gIx_lst, gIx_scr, gIx_ob, obL_lst, obL_fz, gLen_tup, gLen_lst, gLen_scr, gLen_ob, gToInt_int, gToInt_bl, gToStr_int, truD_bl, gMin2_int, gMax2_int, isLst_ob, isLst_lst, obO_lst, oLst_ob, appO_some, gApp_ap, gSetL_ap, okE_some, setL_ob, ixN_0, ixN_1, sizeLine_val, rngL_length, List.set_cons_zero, List.set_cons_succ, List.getElem?_cons_zero, List.getElem?_cons_succ, Option.join_some, Option.map_some, Option.bind_some, List.length_cons, List.length_nil, Option.isSome_some, if_true, if_false, Bool.false_eq_true, Bool.false_xor, Bool.true_xor, and_self, Nat.reduceAdd, Nat.reduceLeDiff, reduceIte, List.append_nil, Bool.not_true, Bool.not_false, bYes_ap, gIsN_ap, isNoneD_int, isNoneD_none, Bool.not_not, List.cons_append, List.nil_append]
    exact ⟨_, ⟨dg, 0, rfl⟩, by trivial, by trivial⟩
  rintro ρ S ⟨b1, hb1, rfl, rfl⟩
  refine WS_cut (fun ρ S => ∃ b1 pg, IsBox b1 ∧ 1 ≤ Rg.w pg ∧ 1 ≤ Rg.h pg ∧ S = [b, b1] ∧ ρ = [some (.scr ns), some (.ob 1), some (.p (.tuple (Ps.map Pt.py))), some (.p pg.py), none, none, none, none, none, none, none, none, none]) ?_ ?_
  · simp -implicitDefEqProofs only [WE_ok, WE_bind, WE_ite, WE_no, WS_nx, WS_rt, WS_bk, WS_ct, WS_lift, WS_seq, WS_ite, oRs_some, eVar_ap, eC_ap, eBin_ap, isB_bl, asB_ap, bAnd_ap, bOr_ap, bNot_ap, bTru_ap, eAnd_wp, eOr_wp, eNot_wp, andR_bl, orR_bl, notR_bl, decide_eq_true_eq, gAny_lst, gAll_lst, gSum_lst, chkOf_p, lItems_lst, eNeg_ap, eIf_ap, aNil_ap, aCons_ap, eTup_ap, eLst_ap, eLstO_ap, eB_ap, eCall_ap, eMth_ap, eIsi_ap, eSl_ap, oNone_ap, oSome_ap, eLc_ap, sSeq_ap, sNil_ap, sBrk_ap, sCnt_ap, sExpr_ap, rtO_some, sRetR_ap, sRetN_ap, sIf_ap, sSet_ap, nxG_ok, sAsg_ap, sAug_ap, gNm_ap, sFor_ap, iRgA_ap, iRgB_ap, iTpl_ap, iLst_ap, restD_p', restAll_nil, restAll_cons, gAdd_int, gAdd_str, gAdd_tup, gAdd_lst, gAddI_int, gSub_int, gMul_int, gMod_int, gFdv_int, gPow_int, gLt_int, gLe_int, gGt_int, gGe_int, gEq_int, gEq_str, gEq_bl, atI_nat', atI_0, atI_1, atI_2, atI_3, atI_4, atI_5, gIx_tup, gIx_lst, gIx_scr, gIx_ob, obL_lst, obL_fz, gLen_tup, gLen_lst, gLen_scr, gLen_ob, gToInt_int, gToInt_bl, gToStr_int, truD_bl, gMin2_int, gMax2_int, isLst_ob, isLst_lst, obO_lst, oLst_ob, appO_some, gApp_ap, gSetL_ap, okE_some, setL_ob, ixN_0, ixN_1, sizeLine_val, rngL_length, List.set_cons_zero, List.set_cons_succ, List.getElem?_cons_zero, List.getElem?_cons_succ, Option.join_some, Option.map_some, Option.bind_some, List.length_cons, List.length_nil, Option.isSome_some, if_true, if_false, Bool.false_eq_true, Bool.false_xor, Bool.true_xor, and_self, Nat.reduceAdd, Nat.reduceLeDiff, reduceIte, List.append_nil, Bool.not_true, Bool.not_false, bYes_ap, gIsN_ap, isNoneD_int, isNoneD_none, Bool.not_not, List.length_map]
    refine draw_wp (n := 1) rfl hb1 (by decide) (clS_cons hb.cl (clS_one hb1.cl)) fun v b2 h0 h1 hb2 => ?_
    simp -implicitDefEqProofs only [WE_ok, WE_bind, WE_ite, WE_no, WS_nx, WS_rt, WS_bk, WS_ct, WS_lift, WS_seq, WS_ite, oRs_some, eVar_ap, eC_ap, eBin_ap, isB_bl, asB_ap, bAnd_ap, bOr_ap, bNot_ap, bTru_ap, eAnd_wp, eOr_wp, eNot_wp, andR_bl, orR_bl, notR_bl, decide_eq_true_eq, gAny_lst, gAll_lst, gSum_lst, chkOf_p, lItems_lst, eNeg_ap, eIf_ap, aNil_ap, aCons_ap, eTup_ap, eLst_ap, eLstO_ap, eB_ap, eCall_ap, eMth_ap, eIsi_ap, eSl_ap, oNone_ap, oSome_ap, eLc_ap, sSeq_ap, sNil_ap, sBrk_ap, sCnt_ap, sExpr_ap, rtO_some, sRetR_ap, sRetN_ap, sIf_ap, sSet_ap, nxG_ok, sAsg_ap, sAug_ap, gNm_ap, sFor_ap, iRgA_ap, iRgB_ap, iTpl_ap, iLst_ap, restD_p', restAll_nil, restAll_cons, gAdd_int, gAdd_str, gAdd_tup, gAdd_lst, gAddI_int, gSub_int, gMul_int, gMod_int, gFdv_int, gPow_int, gLt_int, gLe_int, gGt_int, gGe_int, gEq_int, gEq_str, gEq_bl, atI_nat', atI_0, atI_1, atI_2, atI_3, atI_4, atI_5, gIx_tup, gIx_lst, gIx_scr, gIx_ob, obL_lst, obL_fz, gLen_tup, gLen_lst, gLen_scr, gLen_ob, gToInt_int, gToInt_bl, gToStr_int, truD_bl, gMin2_int, gMax2_int, isLst_ob, isLst_lst, obO_lst, oLst_ob, appO_some, gApp_ap, gSetL_ap, okE_some, setL_ob, ixN_0, ixN_1, sizeLine_val, rngL_length, List.set_cons_zero, List.set_cons_succ, List.getElem?_cons_zero, List.getElem?_cons_succ, Option.join_some, Option.map_some, Option.bind_some, List.length_cons, List.length_nil, Option.isSome_some, if_true, if_false, Bool.false_eq_true, Bool.false_xor, Bool.true_xor, and_self, Nat.reduceAdd, Nat.reduceLeDiff, reduceIte, List.append_nil, Bool.not_true, Bool.not_false, bYes_ap, gIsN_ap, isNoneD_int, isNoneD_none, Bool.not_not]
    refine draw_wp (n := 1) rfl hb2 (by decide) (clS_cons hb.cl (clS_one hb2.cl)) fun v2 b3 h20 h21 hb3 => ?_
    obtain ⟨v, rfl⟩ := Int.eq_ofNat_of_zero_le h0
    obtain ⟨v2, rfl⟩ := Int.eq_ofNat_of_zero_le h20
    simp -implicitDefEqProofs only [WE_ok, WE_bind, WE_ite, WE_no, WS_nx, WS_rt, WS_bk, WS_ct, WS_lift, WS_seq, WS_ite, oRs_some, eVar_ap, eC_ap, eBin_ap, isB_bl, asB_ap, bAnd_ap, bOr_ap, bNot_ap, bTru_ap, eAnd_wp, eOr_wp, eNot_wp, andR_bl, orR_bl, notR_bl, decide_eq_true_eq, gAny_lst, gAll_lst, gSum_lst, chkOf_p, lItems_lst, eNeg_ap, eIf_ap, aNil_ap, aCons_ap, eTup_ap, eLst_ap, eLstO_ap, eB_ap, eCall_ap, eMth_ap, eIsi_ap, eSl_ap, oNone_ap, oSome_ap, eLc_ap, sSeq_ap, sNil_ap, sBrk_ap, sCnt_ap, sExpr_ap, rtO_some, sRetR_ap, sRetN_ap, sIf_ap, sSet_ap, nxG_ok, sAsg_ap, sAug_ap, gNm_ap, sFor_ap, iRgA_ap, iRgB_ap, iTpl_ap, iLst_ap, restD_p', restAll_nil, restAll_cons, gAdd_int, gAdd_str, gAdd_tup, gAdd_lst, gAddI_int, gSub_int, gMul_int, gMod_int, gFdv_int, gPow_int, gLt_int, gLe_int, gGt_int, gGe_int, gEq_int, gEq_str, gEq_bl, atI_nat', atI_0, atI_1, atI_2, atI_3, atI_4, atI_5, gIx_tup, gIx_lst, gIx_scr, gIx_ob, obL_lst, obL_fz, gLen_tup, gLen_lst, gLen_scr, gLen_ob, gToInt_int, gToInt_bl, gToStr_int, truD_bl, gMin2_int, gMax2_int, isLst_ob, isLst_lst, obO_lst, oLst_ob, appO_some, gApp_ap, gSetL_ap, okE_some, setL_ob, ixN_0, ixN_1, sizeLine_val, rngL_length, List.set_cons_zero, List.set_cons_succ, List.getElem?_cons_zero, List.getElem?_cons_succ, Option.join_some, Option.map_some, Option.bind_some, List.length_cons, List.length_nil, Option.isSome_some, if_true, if_false, Bool.false_eq_true, Bool.false_xor, Bool.true_xor, and_self, Nat.reduceAdd, Nat.reduceLeDiff, reduceIte, List.append_nil, Bool.not_true, Bool.not_false, bYes_ap, gIsN_ap, isNoneD_int, isNoneD_none, Bool.not_not]
    refine ⟨b3, ⟨Ps.length - 1, v, v2, 5, 4⟩, hb3, (show 1 ≤ 5 by decide), (show 1 ≤ 4 by decide), by trivial, ?_⟩
    have : ((Ps.length : Int) - 1) = ((Ps.length - 1 : Nat) : Int) := by omega
    simp [Rg.py, this]
  rintro ρ S ⟨b1, pg, hb1, hw, hh, rfl, rfl⟩
  refine WS_cut (fun ρ S => S = [b, b1, rgL []] ∧ ρ = [some (.scr ns), some (.ob 1), some (.p (.tuple (Ps.map Pt.py))), some (.p pg.py), some (.ob 2), none, none, none, none, none, none, none, none]) ?_ ?_
  · simp -implicitDefEqProofs only [WE_ok, WE_bind, WE_ite, WE_no, WS_nx, WS_rt, WS_bk, WS_ct, WS_lift, WS_seq, WS_ite, oRs_some, eVar_ap, eC_ap, eBin_ap, isB_bl, asB_ap, bAnd_ap, bOr_ap, bNot_ap, bTru_ap, eAnd_wp, eOr_wp, eNot_wp, andR_bl, orR_bl, notR_bl, decide_eq_true_eq, gAny_lst, gAll_lst, gSum_lst, chkOf_p, lItems_lst, eNeg_ap, eIf_ap, aNil_ap, aCons_ap, eTup_ap, eLst_ap, eLstO_ap, eB_ap, eCall_ap, eMth_ap, eIsi_ap, eSl_ap, oNone_ap, oSome_ap, eLc_ap, sSeq_ap, sNil_ap, sBrk_ap, sCnt_ap, sExpr_ap, rtO_some, sRetR_ap, sRetN_ap, sIf_ap, sSet_ap, nxG_ok, sAsg_ap, sAug_ap, gNm_ap, sFor_ap, iRgA_ap, iRgB_ap, iTpl_ap, iLst_ap, restD_p', restAll_nil, restAll_cons, gAdd_int, gAdd_str, gAdd_tup, gAdd_lst, gAddI_int, gSub_int, gMul_int, gMod_int, gFdv_int, gPow_int, gLt_int, gLe_int, gGt_int, gGe_int, gEq_int, gEq_str, gEq_bl, atI_nat', atI_0, atI_1, atI_2, atI_3, atI_4, atI_5, gIx_tup, gIx_lst, gIx_scr, gIx_ob, obL_lst, obL_fz, gLen_tup, gLen_lst, gLen_scr, gLen_ob, gToInt_int, gToInt_bl, gToStr_int, truD_bl, gMin2_int, gMax2_int, isLst_ob, isLst_lst, obO_lst, oLst_ob, appO_some, gApp_ap, gSetL_ap, okE_some, setL_ob, ixN_0, ixN_1, sizeLine_val, rngL_length, List.set_cons_zero, List.set_cons_succ, List.getElem?_cons_zero, List.getElem?_cons_succ, Option.join_some, Option.map_some, Option.bind_some, List.length_cons, List.length_nil, Option.isSome_some, if_true, if_false, Bool.false_eq_true, Bool.false_xor, Bool.true_xor, and_self, Nat.reduceAdd, Nat.reduceLeDiff, reduceIte, List.append_nil, Bool.not_true, Bool.not_false, bYes_ap, gIsN_ap, isNoneD_int, isNoneD_none, Bool.not_not]
    all_goals exact ⟨by trivial, by trivial⟩
  rintro ρ S ⟨rfl, rfl⟩
  refine WS_cut (fun ρ S => S = [b, b1, rgL [], rgL []] ∧ ρ = R0 ns Ps pg none none none none none none none) ?_ ?_
  · simp -implicitDefEqProofs only [WE_ok, WE_bind, WE_ite, WE_no, WS_nx, WS_rt, WS_bk, WS_ct, WS_lift, WS_seq, WS_ite, oRs_some, eVar_ap, eC_ap, eBin_ap, isB_bl, asB_ap, bAnd_ap, bOr_ap, bNot_ap, bTru_ap, eAnd_wp, eOr_wp, eNot_wp, andR_bl, orR_bl, notR_bl, decide_eq_true_eq, gAny_lst, gAll_lst, gSum_lst, chkOf_p, lItems_lst, eNeg_ap, eIf_ap, aNil_ap, aCons_ap, eTup_ap, eLst_ap, eLstO_ap, eB_ap, eCall_ap, eMth_ap, eIsi_ap, eSl_ap, oNone_ap, oSome_ap, eLc_ap, sSeq_ap, sNil_ap, sBrk_ap, sCnt_ap, sExpr_ap, rtO_some, sRetR_ap, sRetN_ap, sIf_ap, sSet_ap, nxG_ok, sAsg_ap, sAug_ap, gNm_ap, sFor_ap, iRgA_ap, iRgB_ap, iTpl_ap, iLst_ap, restD_p', restAll_nil, restAll_cons, gAdd_int, gAdd_str, gAdd_tup, gAdd_lst, gAddI_int, gSub_int, gMul_int, gMod_int, gFdv_int, gPow_int, gLt_int, gLe_int, gGt_int, gGe_int, gEq_int, gEq_str, gEq_bl, atI_nat', atI_0, atI_1, atI_2, atI_3, atI_4, atI_5, gIx_tup, gIx_lst, gIx_scr, gIx_ob, obL_lst, obL_fz, gLen_tup, gLen_lst, gLen_scr, gLen_ob, gToInt_int, gToInt_bl, gToStr_int, truD_bl, gMin2_int, gMax2_int, isLst_ob, isLst_lst, obO_lst, oLst_ob, appO_some, gApp_ap, gSetL_ap, okE_some, setL_ob, ixN_0, ixN_1, sizeLine_val, rngL_length, List.set_cons_zero, List.set_cons_succ, List.getElem?_cons_zero, List.getElem?_cons_succ, Option.join_some, Option.map_some, Option.bind_some, List.length_cons, List.length_nil, Option.isSome_some, if_true, if_false, Bool.false_eq_true, Bool.false_xor, Bool.true_xor, and_self, Nat.reduceAdd, Nat.reduceLeDiff, reduceIte, List.append_nil, Bool.not_true, Bool.not_false, bYes_ap, gIsN_ap, isNoneD_int, isNoneD_none, Bool.not_not]
    all_goals exact ⟨by trivial, by trivial⟩
  rintro ρ S ⟨rfl, rfl⟩
  refine WS_cut (fun ρ S => ∃ b1 F B v6 v10, IsBox b1 ∧ F.length < 100 ∧ B.length < 100 ∧ inP Ps.length F ∧ inP Ps.length B ∧ S = [b, b1, rgL F, rgL B] ∧ ρ = R0 ns Ps pg v6 none none none v10 none none) ?_ ?_
  · simp -implicitDefEqProofs only [WE_ok, WE_bind, WE_ite, WE_no, WS_nx, WS_rt, WS_bk, WS_ct, WS_lift, WS_seq, WS_ite, oRs_some, eVar_ap, eC_ap, eBin_ap, isB_bl, asB_ap, bAnd_ap, bOr_ap, bNot_ap, bTru_ap, eAnd_wp, eOr_wp, eNot_wp, andR_bl, orR_bl, notR_bl, decide_eq_true_eq, gAny_lst, gAll_lst, gSum_lst, chkOf_p, lItems_lst, eNeg_ap, eIf_ap, aNil_ap, aCons_ap, eTup_ap, eLst_ap, eLstO_ap, eB_ap, eCall_ap, eMth_ap, eIsi_ap, eSl_ap, oNone_ap, oSome_ap, eLc_ap, sSeq_ap, sNil_ap, sBrk_ap, sCnt_ap, sExpr_ap, rtO_some, sRetR_ap, sRetN_ap, sIf_ap, sSet_ap, nxG_ok, sAsg_ap, sAug_ap, gNm_ap, sFor_ap, iRgA_ap, iRgB_ap, iTpl_ap, iLst_ap, restD_p', restAll_nil, restAll_cons, gAdd_int, gAdd_str, gAdd_tup, gAdd_lst, gAddI_int, gSub_int, gMul_int, gMod_int, gFdv_int, gPow_int, gLt_int, gLe_int, gGt_int, gGe_int, gEq_int, gEq_str, gEq_bl, atI_nat', atI_0, atI_1, atI_2, atI_3, atI_4, atI_5, gIx_tup, gIx_lst, gIx_scr, gIx_ob, obL_lst, obL_fz, gLen_tup, gLen_lst, gLen_scr, gLen_ob, gToInt_int, gToInt_bl, gToStr_int, truD_bl, gMin2_int, gMax2_int, isLst_ob, isLst_lst, obO_lst, oLst_ob, appO_some, gApp_ap, gSetL_ap, okE_some, setL_ob, ixN_0, ixN_1, sizeLine_val, rngL_length, List.set_cons_zero, List.set_cons_succ, List.getElem?_cons_zero, List.getElem?_cons_succ, Option.join_some, Option.map_some, Option.bind_some, List.length_cons, List.length_nil, Option.isSome_some, if_true, if_false, Bool.false_eq_true, Bool.false_xor, Bool.true_xor, and_self, Nat.reduceAdd, Nat.reduceLeDiff, reduceIte, List.append_nil, Bool.not_true, Bool.not_false, bYes_ap, gIsN_ap, isNoneD_int, isNoneD_none, Bool.not_not]
    refine draw_wp (n := 1) rfl hb1 (by decide) (clS_cons hb.cl (clS_cons hb1.cl (clS_cons rgL_cl (clS_one rgL_cl)))) fun v b2 h0 h1 hb2 => ?_
    obtain ⟨v, rfl⟩ := Int.eq_ofNat_of_zero_le h0
    have bv : big62 (v : Int) = true := big62_nat (by omega)
    simp -implicitDefEqProofs only [WE_ok, WE_bind, WE_ite, WE_no, WS_nx, WS_rt, WS_bk, WS_ct, WS_lift, WS_seq, WS_ite, oRs_some, eVar_ap, eC_ap, eBin_ap, isB_bl, asB_ap, bAnd_ap, bOr_ap, bNot_ap, bTru_ap, eAnd_wp, eOr_wp, eNot_wp, andR_bl, orR_bl, notR_bl, decide_eq_true_eq, gAny_lst, gAll_lst, gSum_lst, chkOf_p, lItems_lst, eNeg_ap, eIf_ap, aNil_ap, aCons_ap, eTup_ap, eLst_ap, eLstO_ap, eB_ap, eCall_ap, eMth_ap, eIsi_ap, eSl_ap, oNone_ap, oSome_ap, eLc_ap, sSeq_ap, sNil_ap, sBrk_ap, sCnt_ap, sExpr_ap, rtO_some, sRetR_ap, sRetN_ap, sIf_ap, sSet_ap, nxG_ok, sAsg_ap, sAug_ap, gNm_ap, sFor_ap, iRgA_ap, iRgB_ap, iTpl_ap, iLst_ap, restD_p', restAll_nil, restAll_cons, gAdd_int, gAdd_str, gAdd_tup, gAdd_lst, gAddI_int, gSub_int, gMul_int, gMod_int, gFdv_int, gPow_int, gLt_int, gLe_int, gGt_int, gGe_int, gEq_int, gEq_str, gEq_bl, atI_nat', atI_0, atI_1, atI_2, atI_3, atI_4, atI_5, gIx_tup, gIx_lst, gIx_scr, gIx_ob, obL_lst, obL_fz, gLen_tup, gLen_lst, gLen_scr, gLen_ob, gToInt_int, gToInt_bl, gToStr_int, truD_bl, gMin2_int, gMax2_int, isLst_ob, isLst_lst, obO_lst, oLst_ob, appO_some, gApp_ap, gSetL_ap, okE_some, setL_ob, ixN_0, ixN_1, sizeLine_val, rngL_length, List.set_cons_zero, List.set_cons_succ, List.getElem?_cons_zero, List.getElem?_cons_succ, Option.join_some, Option.map_some, Option.bind_some, List.length_cons, List.length_nil, Option.isSome_some, if_true, if_false, Bool.false_eq_true, Bool.false_xor, Bool.true_xor, and_self, Nat.reduceAdd, Nat.reduceLeDiff, reduceIte, List.append_nil, Bool.not_true, Bool.not_false, bYes_ap, gIsN_ap, isNoneD_int, isNoneD_none, Bool.not_not, bv, Int.toNat_natCast]
    exact loop1_ok hb2 hb hg (by omega) hw hh (by omega)
  rintro ρ S ⟨b2, F, B, v6, v10, hb2, lF, lB, iF, iB, rfl, rfl⟩
  have vF : vList [b, b2, rgL F, rgL B] (.ob 2) = some (F.map Rg.py) := vList_rg rfl
  have vB : vList [b, b2, rgL F, rgL B] (.ob 3) = some (B.map Rg.py) := vList_rg rfl
  have tF : gToTup [.ob 2] [b, b2, rgL F, rgL B] = .ok (.p (.tuple (F.map Rg.py))) [b, b2, rgL F, rgL B] := by
    unfold gToTup
    simp only [vF]
  have tB : gToTup [.ob 3] [b, b2, rgL F, rgL B] = .ok (.p (.tuple (B.map Rg.py))) [b, b2, rgL F, rgL B] := by
    unfold gToTup
    simp only [vB]
  refine WS_cut (fun ρ S => S = [b, b2, rgL F, rgL B] ∧ ρ = R0 ns Ps pg v6 (some (.p (wishD F B))) none none v10 none none) ?_ ?_
  · simp -implicitDefEqProofs only [WE_ok, WE_bind, WE_ite, WE_no, WS_nx, WS_rt, WS_bk, WS_ct, WS_lift, WS_seq, WS_ite, oRs_some, eVar_ap, eC_ap, eBin_ap, isB_bl, asB_ap, bAnd_ap, bOr_ap, bNot_ap, bTru_ap, eAnd_wp, eOr_wp, eNot_wp, andR_bl, orR_bl, notR_bl, decide_eq_true_eq, gAny_lst, gAll_lst, gSum_lst, chkOf_p, lItems_lst, eNeg_ap, eIf_ap, aNil_ap, aCons_ap, eTup_ap, eLst_ap, eLstO_ap, eB_ap, eCall_ap, eMth_ap, eIsi_ap, eSl_ap, oNone_ap, oSome_ap, eLc_ap, sSeq_ap, sNil_ap, sBrk_ap, sCnt_ap, sExpr_ap, rtO_some, sRetR_ap, sRetN_ap, sIf_ap, sSet_ap, nxG_ok, sAsg_ap, sAug_ap, gNm_ap, sFor_ap, iRgA_ap, iRgB_ap, iTpl_ap, iLst_ap, restD_p', restAll_nil, restAll_cons, gAdd_int, gAdd_str, gAdd_tup, gAdd_lst, gAddI_int, gSub_int, gMul_int, gMod_int, gFdv_int, gPow_int, gLt_int, gLe_int, gGt_int, gGe_int, gEq_int, gEq_str, gEq_bl, atI_nat', atI_0, atI_1, atI_2, atI_3, atI_4, atI_5, gIx_tup, gIx_lst, gIx_scr, gIx_ob, obL_lst, obL_fz, gLen_tup, gLen_lst, gLen_scr, gLen_ob, gToInt_int, gToInt_bl, gToStr_int, truD_bl, gMin2_int, gMax2_int, isLst_ob, isLst_lst, obO_lst, oLst_ob, appO_some, gApp_ap, gSetL_ap, okE_some, setL_ob, ixN_0, ixN_1, sizeLine_val, rngL_length, List.set_cons_zero, List.set_cons_succ, List.getElem?_cons_zero, List.getElem?_cons_succ, Option.join_some, Option.map_some, Option.bind_some, List.length_cons, List.length_nil, Option.isSome_some, if_true, if_false, Bool.false_eq_true, Bool.false_xor, Bool.true_xor, and_self, Nat.reduceAdd, Nat.reduceLeDiff, reduceIte, List.append_nil, Bool.not_true, Bool.not_false, bYes_ap, gIsN_ap, isNoneD_int, isNoneD_none, Bool.not_not, tF, tB]
    all_goals exact ⟨by trivial, by trivial⟩
  rintro ρ S ⟨rfl, rfl⟩
  refine WS_cut (fun ρ S => S = [b, b2, rgL F, rgL B, rgL (F ++ B)] ∧ ρ = R0 ns Ps pg v6 (some (.p (wishD F B))) (some (.ob 4)) none v10 none none) ?_ ?_
  · have gO : gAddO (.ob 2) (.ob 3) [b, b2, rgL F, rgL B] = .ok (.ob 4) [b, b2, rgL F, rgL B, rgL (F ++ B)] := by
      unfold gAddO
      rw [vF, vB]
      dsimp only
      rw [if_pos (by rw [List.length_map, List.length_map, sizeLine_eq]; omega), ← List.map_append, ← rgL_eq]
      rfl
    simp -implicitDefEqProofs only [WE_ok, WE_bind, WE_ite, WE_no, WS_nx, WS_rt, WS_bk, WS_ct, WS_lift, WS_seq, WS_ite, oRs_some, eVar_ap, eC_ap, eBin_ap, isB_bl, asB_ap, bAnd_ap, bOr_ap, bNot_ap, bTru_ap, eAnd_wp, eOr_wp, eNot_wp, andR_bl, orR_bl, notR_bl, decide_eq_true_eq, gAny_lst, gAll_lst, gSum_lst, chkOf_p, lItems_lst, eNeg_ap, eIf_ap, aNil_ap, aCons_ap, eTup_ap, eLst_ap, eLstO_ap, eB_ap, eCall_ap, eMth_ap, eIsi_ap, eSl_ap, oNone_ap, oSome_ap, eLc_ap, sSeq_ap, sNil_ap, sBrk_ap, sCnt_ap, sExpr_ap, rtO_some, sRetR_ap, sRetN_ap, sIf_ap, sSet_ap, nxG_ok, sAsg_ap, sAug_ap, gNm_ap, sFor_ap, iRgA_ap, iRgB_ap, iTpl_ap, iLst_ap, restD_p', restAll_nil, restAll_cons, gAdd_int, gAdd_str, gAdd_tup, gAdd_lst, gAddI_int, gSub_int, gMul_int, gMod_int, gFdv_int, gPow_int, gLt_int, gLe_int, gGt_int, gGe_int, gEq_int, gEq_str, gEq_bl, atI_nat', atI_0, atI_1, atI_2, atI_3, atI_4, atI_5, gIx_tup, gIx_lst, gIx_scr, gIx_ob, obL_lst, obL_fz, gLen_tup, gLen_lst, gLen_scr, gLen_ob, gToInt_int, gToInt_bl, gToStr_int, truD_bl, gMin2_int, gMax2_int, isLst_ob, isLst_lst, obO_lst, oLst_ob, appO_some, gApp_ap, gSetL_ap, okE_some, setL_ob, ixN_0, ixN_1, sizeLine_val, rngL_length, List.set_cons_zero, List.set_cons_succ, List.getElem?_cons_zero, List.getElem?_cons_succ, Option.join_some, Option.map_some, Option.bind_some, List.length_cons, List.length_nil, Option.isSome_some, if_true, if_false, Bool.false_eq_true, Bool.false_xor, Bool.true_xor, and_self, Nat.reduceAdd, Nat.reduceLeDiff, reduceIte, List.append_nil, Bool.not_true, Bool.not_false, bYes_ap, gIsN_ap, isNoneD_int, isNoneD_none, Bool.not_not, gO]
    all_goals exact ⟨by trivial, by trivial⟩
  rintro ρ S ⟨rfl, rfl⟩
  refine WS_cut (fun ρ S => ∃ A T v6 v11, inP Ps.length A ∧ A.length < 2000 ∧ ClS 0 T ∧ S = b :: b2 :: rgL F :: rgL B :: rgL A :: T ∧ ρ = R0 ns Ps pg v6 (some (.p (wishD F B))) (some (.ob 4)) none v10 v11 none) ?_ ?_
  · simp -implicitDefEqProofs only [WE_ok, WE_bind, WE_ite, WE_no, WS_nx, WS_rt, WS_bk, WS_ct, WS_lift, WS_seq, WS_ite, oRs_some, eVar_ap, eC_ap, eBin_ap, isB_bl, asB_ap, bAnd_ap, bOr_ap, bNot_ap, bTru_ap, eAnd_wp, eOr_wp, eNot_wp, andR_bl, orR_bl, notR_bl, decide_eq_true_eq, gAny_lst, gAll_lst, gSum_lst, chkOf_p, lItems_lst, eNeg_ap, eIf_ap, aNil_ap, aCons_ap, eTup_ap, eLst_ap, eLstO_ap, eB_ap, eCall_ap, eMth_ap, eIsi_ap, eSl_ap, oNone_ap, oSome_ap, eLc_ap, sSeq_ap, sNil_ap, sBrk_ap, sCnt_ap, sExpr_ap, rtO_some, sRetR_ap, sRetN_ap, sIf_ap, sSet_ap, nxG_ok, sAsg_ap, sAug_ap, gNm_ap, sFor_ap, iRgA_ap, iRgB_ap, iTpl_ap, iLst_ap, restD_p', restAll_nil, restAll_cons, gAdd_int, gAdd_str, gAdd_tup, gAdd_lst, gAddI_int, gSub_int, gMul_int, gMod_int, gFdv_int, gPow_int, gLt_int, gLe_int, gGt_int, gGe_int, gEq_int, gEq_str, gEq_bl, atI_nat', atI_0, atI_1, atI_2, atI_3, atI_4, atI_5, gIx_tup, gIx_lst, gIx_scr, gIx_ob, obL_lst, obL_fz, gLen_tup, gLen_lst, gLen_scr, gLen_ob, gToInt_int, gToInt_bl, gToStr_int, truD_bl, gMin2_int, gMax2_int, isLst_ob, isLst_lst, obO_lst, oLst_ob, appO_some, gApp_ap, gSetL_ap, okE_some, setL_ob, ixN_0, ixN_1, sizeLine_val, rngL_length, List.set_cons_zero, List.set_cons_succ, List.getElem?_cons_zero, List.getElem?_cons_succ, Option.join_some, Option.map_some, Option.bind_some, List.length_cons, List.length_nil, Option.isSome_some, if_true, if_false, Bool.false_eq_true, Bool.false_xor, Bool.true_xor, and_self, Nat.reduceAdd, Nat.reduceLeDiff, reduceIte, List.append_nil, Bool.not_true, Bool.not_false, bYes_ap, gIsN_ap, isNoneD_int, isNoneD_none, Bool.not_not]
    have e1 : ∃ N : Nat, (if (if (ns.length : Int) > 36 then (ns.length : Int) else 36) < 48 then (if (ns.length : Int) > 36 then (ns.length : Int) else 36) else 48) = ((28 + N : Nat) : Int) ∧ N < 100 := by
      refine ⟨(if (if ns.length > 36 then ns.length else 36) < 48 then (if ns.length > 36 then ns.length else 36) else 48) - 28, ?_, ?_⟩
      · split <;> split <;> (try split) <;> (try split) <;> omega
      · split <;> split <;> omega
    obtain ⟨N, e1, hN⟩ := e1
    have b28 : big62 28 = true := big62_of (by decide) (by decide)
    have bN : big62 ((28 + N : Nat) : Int) = true := big62_nat (by omega)
    rw [e1]
    simp -implicitDefEqProofs only [WE_ok, WE_bind, WE_ite, WE_no, WS_nx, WS_rt, WS_bk, WS_ct, WS_lift, WS_seq, WS_ite, oRs_some, eVar_ap, eC_ap, eBin_ap, isB_bl, asB_ap, bAnd_ap, bOr_ap, bNot_ap, bTru_ap, eAnd_wp, eOr_wp, eNot_wp, andR_bl, orR_bl, notR_bl, decide_eq_true_eq, gAny_lst, gAll_lst, gSum_lst, chkOf_p, lItems_lst, eNeg_ap, eIf_ap, aNil_ap, aCons_ap, eTup_ap, eLst_ap, eLstO_ap, eB_ap, eCall_ap, eMth_ap, eIsi_ap, eSl_ap, oNone_ap, oSome_ap, eLc_ap, sSeq_ap, sNil_ap, sBrk_ap, sCnt_ap, sExpr_ap, rtO_some, sRetR_ap, sRetN_ap, sIf_ap, sSet_ap, nxG_ok, sAsg_ap, sAug_ap, gNm_ap, sFor_ap, iRgA_ap, iRgB_ap, iTpl_ap, iLst_ap, restD_p', restAll_nil, restAll_cons, gAdd_int, gAdd_str, gAdd_tup, gAdd_lst, gAddI_int, gSub_int, gMul_int, gMod_int, gFdv_int, gPow_int, gLt_int, gLe_int, gGt_int, gGe_int, gEq_int, gEq_str, gEq_bl, atI_nat', atI_0, atI_1, atI_2, atI_3, atI_4, atI_5, gIx_tup, gIx_lst, gIx_scr, gIx_ob, obL_lst, obL_fz, gLen_tup, gLen_lst, gLen_scr, gLen_ob, gToInt_int, gToInt_bl, gToStr_int, truD_bl, gMin2_int, gMax2_int, isLst_ob, isLst_lst, obO_lst, oLst_ob, appO_some, gApp_ap, gSetL_ap, okE_some, setL_ob, ixN_0, ixN_1, sizeLine_val, rngL_length, List.set_cons_zero, List.set_cons_succ, List.getElem?_cons_zero, List.getElem?_cons_succ, Option.join_some, Option.map_some, Option.bind_some, List.length_cons, List.length_nil, Option.isSome_some, if_true, if_false, Bool.false_eq_true, Bool.false_xor, Bool.true_xor, and_self, Nat.reduceAdd, Nat.reduceLeDiff, reduceIte, List.append_nil, Bool.not_true, Bool.not_false, bYes_ap, gIsN_ap, isNoneD_int, isNoneD_none, Bool.not_not, b28, bN]
    rw [show (((28 + N : Nat) : Int) - 28).toNat = N by omega]
    exact loop2_ok hb2 hb hg (by omega) hw hh hN iF (fun r hr => by
      rcases List.mem_append.mp hr with z | z
      · exact iF r z
      · exact iB r z) (by omega) (by rw [List.length_append]; omega)
  rintro ρ S ⟨A, T, v6, v11, iA, lA, cT, rfl, rfl⟩
  refine WS_cut (fun ρ S => True) ?_ ?_
  · have li : lItems (b :: b2 :: rgL F :: rgL B :: rgL A :: T) (.ob 4) = some (A.map fun r => D.p r.py) := rfl
    simp -implicitDefEqProofs only [WE_ok, WE_bind, WE_ite, WE_no, WS_nx, WS_rt, WS_bk, WS_ct, WS_lift, WS_seq, WS_ite, oRs_some, eVar_ap, eC_ap, eBin_ap, isB_bl, asB_ap, bAnd_ap, bOr_ap, bNot_ap, bTru_ap, eAnd_wp, eOr_wp, eNot_wp, andR_bl, orR_bl, notR_bl, decide_eq_true_eq, gAny_lst, gAll_lst, gSum_lst, chkOf_p, lItems_lst, eNeg_ap, eIf_ap, aNil_ap, aCons_ap, eTup_ap, eLst_ap, eLstO_ap, eB_ap, eCall_ap, eMth_ap, eIsi_ap, eSl_ap, oNone_ap, oSome_ap, eLc_ap, sSeq_ap, sNil_ap, sBrk_ap, sCnt_ap, sExpr_ap, rtO_some, sRetR_ap, sRetN_ap, sIf_ap, sSet_ap, nxG_ok, sAsg_ap, sAug_ap, gNm_ap, sFor_ap, iRgA_ap, iRgB_ap, iTpl_ap, iLst_ap, restD_p', restAll_nil, restAll_cons, gAdd_int, gAdd_str, gAdd_tup, gAdd_lst, gAddI_int, gSub_int, gMul_int, gMod_int, gFdv_int, gPow_int, gLt_int, gLe_int, gGt_int, gGe_int, gEq_int, gEq_str, gEq_bl, atI_nat', atI_0, atI_1, atI_2, atI_3, atI_4, atI_5, gIx_tup, gIx_lst, gIx_scr, gIx_ob, obL_lst, obL_fz, gLen_tup, gLen_lst, gLen_scr, gLen_ob, gToInt_int, gToInt_bl, gToStr_int, truD_bl, gMin2_int, gMax2_int, isLst_ob, isLst_lst, obO_lst, oLst_ob, appO_some, gApp_ap, gSetL_ap, okE_some, setL_ob, ixN_0, ixN_1, sizeLine_val, rngL_length, List.set_cons_zero, List.set_cons_succ, List.getElem?_cons_zero, List.getElem?_cons_succ, Option.join_some, Option.map_some, Option.bind_some, List.length_cons, List.length_nil, Option.isSome_some, if_true, if_false, Bool.false_eq_true, Bool.false_xor, Bool.true_xor, and_self, Nat.reduceAdd, Nat.reduceLeDiff, reduceIte, List.append_nil, Bool.not_true, Bool.not_false, bYes_ap, gIsN_ap, isNoneD_int, isNoneD_none, Bool.not_not, li]
    refine WS_mono (loop3_ok (S := b :: b2 :: rgL F :: rgL B :: rgL A :: T) (clS_cons hb.cl (clS_cons hb2.cl (clS_cons rgL_cl (clS_cons rgL_cl (clS_cons rgL_cl cT))))) rfl (by omega) iA) (fun _ _ _ => trivial) (fun _ _ h => h) (fun _ _ h => h) (fun _ _ h => h) (fun _ _ _ h => h)
  rintro ρ S _
  simp -implicitDefEqProofs only [WE_ok, WE_bind, WE_ite, WE_no, WS_nx, WS_rt, WS_bk, WS_ct, WS_lift, WS_seq, WS_ite, oRs_some, eVar_ap, eC_ap, eBin_ap, isB_bl, asB_ap, bAnd_ap, bOr_ap, bNot_ap, bTru_ap, eAnd_wp, eOr_wp, eNot_wp, andR_bl, orR_bl, notR_bl, decide_eq_true_eq, gAny_lst, gAll_lst, gSum_lst, chkOf_p, lItems_lst, eNeg_ap, eIf_ap, aNil_ap, aCons_ap, eTup_ap, eLst_ap, eLstO_ap, eB_ap, eCall_ap, eMth_ap, eIsi_ap, eSl_ap, oNone_ap, oSome_ap, eLc_ap, sSeq_ap, sNil_ap, sBrk_ap, sCnt_ap, sExpr_ap, rtO_some, sRetR_ap, sRetN_ap, sIf_ap, sSet_ap, nxG_ok, sAsg_ap, sAug_ap, gNm_ap, sFor_ap, iRgA_ap, iRgB_ap, iTpl_ap, iLst_ap, restD_p', restAll_nil, restAll_cons, gAdd_int, gAdd_str, gAdd_tup, gAdd_lst, gAddI_int, gSub_int, gMul_int, gMod_int, gFdv_int, gPow_int, gLt_int, gLe_int, gGt_int, gGe_int, gEq_int, gEq_str, gEq_bl, atI_nat', atI_0, atI_1, atI_2, atI_3, atI_4, atI_5, gIx_tup, gIx_lst, gIx_scr, gIx_ob, obL_lst, obL_fz, gLen_tup, gLen_lst, gLen_scr, gLen_ob, gToInt_int, gToInt_bl, gToStr_int, truD_bl, gMin2_int, gMax2_int, isLst_ob, isLst_lst, obO_lst, oLst_ob, appO_some, gApp_ap, gSetL_ap, okE_some, setL_ob, ixN_0, ixN_1, sizeLine_val, rngL_length, List.set_cons_zero, List.set_cons_succ, List.getElem?_cons_zero, List.getElem?_cons_succ, Option.join_some, Option.map_some, Option.bind_some, List.length_cons, List.length_nil, Option.isSome_some, if_true, if_false, Bool.false_eq_true, Bool.false_xor, Bool.true_xor, and_self, Nat.reduceAdd, Nat.reduceLeDiff, reduceIte, List.append_nil, Bool.not_true, Bool.not_false, bYes_ap, gIsN_ap, isNoneD_int, isNoneD_none, Bool.not_not]
end My

open PySem PySem.W PySem.Calls PyProof.Rows
theorem PySem.Challenge.cw_surelyread_k20_allowed_regions_holds : PySem.Challenge.rw_surelyread_k20_allowed_regions.Holds := by
  w_on; o_law
  refine HandSHeadRun.head_any (r := PySem.W.OpenLaw.row PySem.Challenge.rw_surelyread_k20_allowed_regions) (q := PySem.W.view (PySem.W.OpenLaw.row PySem.Challenge.rw_surelyread_k20_allowed_regions).prog [17]) (H := My.hkD) (ob := DL.obM 4 My.faD My.fnsD My.moreD) (M := 6000) (loose := My.namesD) (d := HandSHeadRun.topDef (PySem.W.OpenLaw.row PySem.Challenge.rw_surelyread_k20_allowed_regions).prog 17) (kwd := []) DL.obM_eq
    (by kernel_rfl) (fun s => by kernel_rfl) My.runD (by kernel_rfl) (by kernel_rfl) (by kernel_rfl) (by rfl) (by first | assumption | decide +kernel) (by decide +kernel) ⟨rfl, rfl, rfl, rfl, rfl, by decide +kernel⟩ ?hw ?hc
  case hw => w_witness2
  case hc =>
    refine L2.walk_ofE (l := PySem.Challenge.rw_surelyread_k20_allowed_regions) (n := 63) (k := 8) (x := "script") (CX := L2.CX0) rfl (by rw [PySem.sizeLine_eq]; decide) (by kernel_rfl) ⟨rfl, by decide, by decide⟩ ?F (fun _ _ _ _ z => z)
    intro w mg fa h Y G hmg0
    obtain ⟨K, KX, c, cm⟩ := Y
    have hmg : mg ("law" : PySem.Str) = some (.ref fa) := by
      have e : (HandSHeadRun.topDef (PySem.W.OpenLaw.row PySem.Challenge.rw_surelyread_k20_allowed_regions).prog 17).name = ("law" : PySem.Str) := by kernel_rfl
      rw [← e]
      exact hmg0
    obtain ⟨f, fd, e1, U, _⟩ := My.all_fns (P := (PySem.Challenge.rw_surelyread_k20_allowed_regions).prog) (w := w) (base := h) KX G c cm
    have b := L2.FunD.bindsA (ps := ["script"]) U fun _ _ _ _ _ _ us hl => match us, hl with | [_], _ => rfl
    have fe : f = fa := by
      have z := e1.symm.trans hmg
      cases z
      rfl
    subst fe
    refine ⟨K, fd, DL.spOf K mg 1 (fun ds S => DL.noEx (My.G_law ds S)), KX, fun s v => b s [v] rfl, fun H a ns hl hO hS => ?_, fun base kb nb => ?_⟩
    · obtain ⟨S', e⟩ := My.law_true ns hl
      exact DL.law_sp hO hS e
    · obtain ⟨f2, fd2, e2, U2, F2⟩ := My.all_fns (P := (PySem.Challenge.rw_surelyread_k20_allowed_regions).prog) (w := w) (base := base) KX G c cm
      have z := e2.symm.trans hmg
      cases z
      have zz : fd2 = fd := DL.funS_same U2 U
      subst zz
      exact F2
