import PyProof.Rows.All
import Wide.All
import OpenK.AllK
import Wide.FinOn
import HandS.ForMost
import HandS.ForExc
import HandS.Strs
import HandS.Deep
import HandS.TupAny
import HandS.TupLe
import HandS.IsInst
import HandS.Conv
import HandS.Wide
import HandS.ExcOwn
import HandS.StrMore
import HandS.ExcCtx
import HandS.HotCalls
import HandS.ExcIs
import HandS.NestedHot
import KE.KExcIs
import HandS.ExcField
import HandS.Defaults
import HandS.Head0
import HandS.Head1
import HandS.Head2
import HandS.HeadEnd
import HandS.HeadHook1
import HandS.HeadHook2
import HandS.ExcInit
import HandS.FStr
import HandS.SortInts
import KE.LtData
import HandS.SetBool
import HandS.Set
import PyProof.Rows.StrMul
import PySem.Challenge.RW_surelyread_k09_machines_exact
import HandS.Codes
set_option Elab.async false
set_option linter.all false
set_option maxRecDepth 100000
set_option maxHeartbeats 4000000
/-! DL: a reading of the hand layer by plain data: what a term computes is a total function over data and a store of the lists that still change. -/
namespace DL
open PySem PySem.Spec PyProof.Rows L2
abbrev St := L2.St

/-- the written part, and the addresses of things that are being made (no data speaks of them) -/
structure Kh where
  K : PySem.W.Frag
  h : Addr → Prop
/-! ### data, store -/
inductive D where
  | p (d : PyData)
  | ob (n : Nat)
  | scr (ns : List Int)
  | xc (a : Addr) (dd : Option Addr) (fs : List (Str × PyData))
/-- the value of a bare thing -/
def sV : PyData → V
  | .bool b => .bl b
  | .int i => .int i
  | .str x => .str x
  | _ => .non
def sVs (fs : List (Str × PyData)) : List (Str × V) := fs.map fun p => (p.1, sV p.2)
abbrev D.int (i : Int) : D := .p (.int i)
abbrev D.bl (b : Bool) : D := .p (.bool b)
abbrev D.str (s : Str) : D := .p (.str s)
abbrev D.non : D := .p .none
abbrev D.tup (l : List PyData) : D := .p (.tuple l)
abbrev D.lst (l : List PyData) : D := .p (.list l)
inductive O where
  | lst (l : List D)
  | fz (l : List PyData)
  | dic (kvs : List (List Key × D))
abbrev Sto := List O
abbrev Env := List (Option D)
def O.live : O → Bool
  | .lst _ => true
  | .dic _ => true
  | _ => false
/-- the addresses of what still changes -/
def lv (K : Kh) (m : List Addr) (S : Sto) (a : Addr) : Prop := K.h a ∨ ∃ (n : Nat) (o : O), m[n]? = some a ∧ S[n]? = some o ∧ O.live o = true

mutual
def RP (K : Kh) (H : Hp) (L : Addr → Prop) : PyData → V → Prop
  | .none, v => v = .non
  | .bool b, v => v = .bl b
  | .int i, v => v = .int i
  | .str x, v => v = .str x
  | .list l, v => ∃ a vs, v = .ref a ∧ H a = some (.lst vs) ∧ ¬ L a ∧ RPs K H L l vs
  | .tuple l, v => ∃ a vs, v = .ref a ∧ H a = some (.tup vs) ∧ RPs K H L l vs
  | .dict _, _ => False
def RPs (K : Kh) (H : Hp) (L : Addr → Prop) : List PyData → List V → Prop
  | [], vs => vs = []
  | d :: l, vs => ∃ v r, vs = v :: r ∧ RP K H L d v ∧ RPs K H L l r
end
def RD (K : Kh) (m : List Addr) (S : Sto) (H : Hp) : D → V → Prop
  | .p d, v => RP K H (lv K m S) d v
  | .ob n, v => ∃ a, m[n]? = some a ∧ v = .ref a
  | .scr ns, v => ∃ a, v = .ref a ∧ ((∃ o, H a = some (.frz o (.lst (ns.map V.int)))) ∨ SqL K.K (fun _ => none) a (ns.map V.int))
  | .xc a dd fs, v => v = .ref a ∧ ∀ d, dd = some d → H d = some (.xd (sVs fs))
abbrev RDs (K : Kh) (m : List Addr) (S : Sto) (H : Hp) : List D → List V → Prop := Paired (RD K m S H)
abbrev RKV (K : Kh) (m : List Addr) (S : Sto) (H : Hp) : List (List Key × D) → List (List Key × V) → Prop := Paired fun p q => p.1 = q.1 ∧ RD K m S H p.2 q.2
def RO (K : Kh) (m : List Addr) (S : Sto) (H : Hp) (a : Addr) : O → Prop
  | .lst l => ∃ vs, H a = some (.lst vs) ∧ RDs K m S H l vs
  | .fz l => ∃ vs, H a = some (.lst vs) ∧ RPs K H (lv K m S) l vs
  | .dic kvs => ∃ ws, H a = some (.dT ws) ∧ RKV K m S H kvs ws
/-- what may change -/
def Mb : HO → Prop
  | .tup _ => False
  | .frz _ _ => False
  | .xd _ => False
  | _ => True
structure Rl (K : Kh) (m : List Addr) (S : Sto) (H : Hp) : Prop where
  len : m.length = S.length
  nd : m.Nodup
  hid : ∀ a, K.h a → a ∉ m ∧ ∃ u, H a = some u ∧ Mb u
  obj : ∀ (n : Nat) (a : Addr) (o : O), m[n]? = some a → S[n]? = some o → RO K m S H a o
abbrev RE (K : Kh) (m : List Addr) (S : Sto) (H : Hp) : Env → St → Prop := Paired fun od ov => ∀ d, od = some d → ∃ v, ov = some v ∧ RD K m S H d v
/-- what stays -/
structure Nx (K : Kh) (m : List Addr) (S : Sto) (H : Hp) (m' : List Addr) (S' : Sto) (H' : Hp) : Prop where
  tup : ∀ a vs, H a = some (.tup vs) → H' a = some (.tup vs)
  lst : ∀ a vs, H a = some (.lst vs) → ¬ lv K m S a → H' a = some (.lst vs) ∧ ¬ lv K m' S' a
  ext : ∃ t, m' = m ++ t
  frz : ∀ a o u, H a = some (.frz o u) → H' a = some (.frz o u)
  xd : ∀ a fs, H a = some (.xd fs) → H' a = some (.xd fs)
  hid : ∀ a, K.h a → H' a = H a

section
variable {K : Kh} {m m' m1 m2 : List Addr} {S S' S1 S2 : Sto} {H H' H1 H2 : Hp} {L L' : Addr → Prop}
theorem Nx.refl : Nx K m S H m S H := ⟨fun _ _ h => h, fun _ _ h n => ⟨h, n⟩, ⟨[], by simp⟩, fun _ _ _ h => h, fun _ _ h => h, fun _ _ => rfl⟩
theorem Nx.trans (a : Nx K m S H m1 S1 H1) (b : Nx K m1 S1 H1 m2 S2 H2) : Nx K m S H m2 S2 H2 :=
  ⟨fun x vs h => b.tup x vs (a.tup x vs h), fun x vs h n => let ⟨h1, n1⟩ := a.lst x vs h n; b.lst x vs h1 n1, by
    obtain ⟨t1, rfl⟩ := a.ext
    obtain ⟨t2, rfl⟩ := b.ext
    exact ⟨t1 ++ t2, by simp⟩, fun x o u h => b.frz x o u (a.frz x o u h), fun x u h => b.xd x u (a.xd x u h), fun x h => (b.hid x h).trans (a.hid x h)⟩
mutual
theorem RP.mono (ht : ∀ a vs, H a = some (.tup vs) → H' a = some (.tup vs)) (hl : ∀ a vs, H a = some (.lst vs) → ¬ L a → H' a = some (.lst vs) ∧ ¬ L' a) : ∀ (d : PyData) (v : V), RP K H L d v → RP K H' L' d v
  | .none, v, h => by simpa [RP] using h
  | .bool b, v, h => by simpa [RP] using h
  | .int i, v, h => by simpa [RP] using h
  | .str x, v, h => by simpa [RP] using h
  | .list l, v, h => by
    rw [RP] at h ⊢
    obtain ⟨a, vs, e, h1, h2, h3⟩ := h
    obtain ⟨g1, g2⟩ := hl a vs h1 h2
    exact ⟨a, vs, e, g1, g2, RPs.mono ht hl l vs h3⟩
  | .tuple l, v, h => by
    rw [RP] at h ⊢
    obtain ⟨a, vs, e, h1, h3⟩ := h
    exact ⟨a, vs, e, ht a vs h1, RPs.mono ht hl l vs h3⟩
  | .dict _, v, h => by rw [RP] at h; exact h.elim
theorem RPs.mono (ht : ∀ a vs, H a = some (.tup vs) → H' a = some (.tup vs)) (hl : ∀ a vs, H a = some (.lst vs) → ¬ L a → H' a = some (.lst vs) ∧ ¬ L' a) : ∀ (l : List PyData) (vs : List V), RPs K H L l vs → RPs K H' L' l vs
  | [], vs, h => by simpa [RPs] using h
  | d :: l, vs, h => by
    rw [RPs] at h ⊢
    obtain ⟨v, r, e, h1, h2⟩ := h
    exact ⟨v, r, e, RP.mono ht hl d v h1, RPs.mono ht hl l r h2⟩
end
theorem RP.nx (n : Nx K m S H m' S' H') {d : PyData} {v : V} (h : RP K H (lv K m S) d v) : RP K H' (lv K m' S') d v := RP.mono n.tup n.lst d v h
theorem RPs.nx (n : Nx K m S H m' S' H') {d : List PyData} {v : List V} (h : RPs K H (lv K m S) d v) : RPs K H' (lv K m' S') d v := RPs.mono n.tup n.lst d v h
theorem RD.nx (n : Nx K m S H m' S' H') {d : D} {v : V} (h : RD K m S H d v) : RD K m' S' H' d v := by
  cases d with
  | p d => exact RP.nx n h
  | ob k =>
    obtain ⟨a, e, rfl⟩ := h
    obtain ⟨t, rfl⟩ := n.ext
    refine ⟨a, ?_, rfl⟩
    rw [List.getElem?_append_left (List.getElem?_eq_some_iff.mp e).1]
    exact e
  | scr ns =>
    obtain ⟨a, rfl, h | h⟩ := h
    · obtain ⟨o, h⟩ := h
      exact ⟨a, rfl, .inl ⟨o, n.frz _ _ _ h⟩⟩
    · exact ⟨a, rfl, .inr h⟩
  | xc a dd fs => exact ⟨h.1, fun d e => n.xd _ _ (h.2 d e)⟩
theorem pairMono {α β : Type} {F G : α → β → Prop} (h : ∀ a b, F a b → G a b) {l : List α} {r : List β} (q : Paired F l r) : Paired G l r := by
  induction q with
  | nil => exact .nil
  | cons a _ ih => exact .cons (h _ _ a) ih
theorem RDs.nx (n : Nx K m S H m' S' H') {d : List D} {v : List V} (h : RDs K m S H d v) : RDs K m' S' H' d v := pairMono (fun _ _ => RD.nx n) h
theorem RKV.nx (n : Nx K m S H m' S' H') {d : List (List Key × D)} {v} (h : RKV K m S H d v) : RKV K m' S' H' d v := pairMono (fun _ _ q => ⟨q.1, RD.nx n q.2⟩) h
theorem RE.nx (n : Nx K m S H m' S' H') {ρ : Env} {σ : St} (h : RE K m S H ρ σ) : RE K m' S' H' ρ σ :=
  pairMono (fun _ _ q d e => let ⟨v, a, b⟩ := q d e; ⟨v, a, RD.nx n b⟩) h
theorem RPs_iff {l : List PyData} {vs : List V} : RPs K H L l vs ↔ Paired (RP K H L) l vs := by
  induction l generalizing vs with
  | nil =>
    rw [RPs]
    constructor
    · rintro rfl; exact .nil
    · intro h; cases h; rfl
  | cons d l ih =>
    rw [RPs]
    constructor
    · rintro ⟨v, r, rfl, h1, h2⟩
      exact .cons h1 (ih.mp h2)
    · intro h
      cases h with
      | cons h1 h2 => exact ⟨_, _, rfl, h1, ih.mpr h2⟩
theorem RDs_p {l : List PyData} {vs : List V} : RDs K m S H (l.map .p) vs ↔ RPs K H (lv K m S) l vs := by
  rw [RPs_iff]
  induction l generalizing vs with
  | nil =>
    constructor
    · intro h; cases h; exact .nil
    · intro h; cases h; exact .nil
  | cons d l ih =>
    rw [List.map_cons]
    constructor
    · intro h
      cases h with
      | cons h1 h2 => exact .cons h1 (ih.mp h2)
    · intro h
      cases h with
      | cons h1 h2 => exact .cons h1 (ih.mpr h2)
theorem pairLen {α β : Type} {F : α → β → Prop} {l : List α} {r : List β} (q : Paired F l r) : l.length = r.length := by
  induction q with
  | nil => rfl
  | cons a _ ih => simp [ih]
theorem pairGet {α β : Type} {F : α → β → Prop} {l : List α} {r : List β} (q : Paired F l r) {i : Nat} {a : α} (e : l[i]? = some a) : ∃ b, r[i]? = some b ∧ F a b := by
  induction q generalizing i with
  | nil => simp at e
  | cons h _ ih =>
    cases i with
    | zero =>
      simp at e
      subst e
      exact ⟨_, rfl, h⟩
    | succ i => exact ih (by simpa using e)
theorem pairGetR {α β : Type} {F : α → β → Prop} {l : List α} {r : List β} (q : Paired F l r) {i : Nat} {b : β} (e : r[i]? = some b) : ∃ a, l[i]? = some a ∧ F a b := by
  induction q generalizing i with
  | nil => simp at e
  | cons h _ ih =>
    cases i with
    | zero =>
      simp at e
      subst e
      exact ⟨_, rfl, h⟩
    | succ i => exact ih (by simpa using e)
theorem pairSet {α β : Type} {F : α → β → Prop} {l : List α} {r : List β} (q : Paired F l r) {i : Nat} {a : α} {b : β} (h : F a b) : Paired F (l.set i a) (r.set i b) := by
  induction q generalizing i with
  | nil => exact .nil
  | cons x t ih =>
    cases i with
    | zero => exact .cons h t
    | succ i => exact .cons x ih
theorem pairApp {α β : Type} {F : α → β → Prop} {l l' : List α} {r r' : List β} (q : Paired F l r) (q' : Paired F l' r') : Paired F (l ++ l') (r ++ r') := by
  induction q with
  | nil => exact q'
  | cons x t ih => exact .cons x ih
theorem pairTake {α β : Type} {F : α → β → Prop} {l : List α} {r : List β} (q : Paired F l r) (n : Nat) : Paired F (l.take n) (r.take n) := by
  induction q generalizing n with
  | nil => simp; exact .nil
  | cons x t ih =>
    cases n with
    | zero => exact .nil
    | succ n => exact .cons x (ih n)
theorem pairDrop {α β : Type} {F : α → β → Prop} {l : List α} {r : List β} (q : Paired F l r) (n : Nat) : Paired F (l.drop n) (r.drop n) := by
  induction q generalizing n with
  | nil => simp; exact .nil
  | cons x t ih =>
    cases n with
    | zero => exact .cons x t
    | succ n => exact ih n
theorem pairRev {α β : Type} {F : α → β → Prop} {l : List α} {r : List β} (q : Paired F l r) : Paired F l.reverse r.reverse := by
  induction q with
  | nil => exact .nil
  | cons x t ih =>
    rw [List.reverse_cons, List.reverse_cons]
    exact pairApp ih (.cons x .nil)
mutual
theorem RP.kk {K K' : Kh} (e : K.K = K'.K) : ∀ (d : PyData) (v : V), RP K H L d v → RP K' H L d v
  | .none, v, h => by simpa [RP] using h
  | .bool b, v, h => by simpa [RP] using h
  | .int i, v, h => by simpa [RP] using h
  | .str x, v, h => by simpa [RP] using h
  | .list l, v, h => by
    rw [RP] at h ⊢
    obtain ⟨a, vs, e1, h1, h2, h3⟩ := h
    exact ⟨a, vs, e1, h1, h2, RPs.kk e l vs h3⟩
  | .tuple l, v, h => by
    rw [RP] at h ⊢
    obtain ⟨a, vs, e1, h1, h3⟩ := h
    exact ⟨a, vs, e1, h1, RPs.kk e l vs h3⟩
  | .dict _, v, h => by rw [RP] at h; exact h.elim
theorem RPs.kk {K K' : Kh} (e : K.K = K'.K) : ∀ (l : List PyData) (vs : List V), RPs K H L l vs → RPs K' H L l vs
  | [], vs, h => by simpa [RPs] using h
  | d :: l, vs, h => by
    rw [RPs] at h ⊢
    obtain ⟨v, r, e1, h1, h2⟩ := h
    exact ⟨v, r, e1, RP.kk e d v h1, RPs.kk e l r h2⟩
end
mutual
theorem RP.dp : ∀ (d : PyData) (v : V), RP K H L d v → Dp K.K H v d
  | .none, v, h => by rw [RP] at h; subst h; exact .non
  | .bool b, v, h => by rw [RP] at h; subst h; exact .bl b
  | .int i, v, h => by rw [RP] at h; subst h; exact .int i
  | .str x, v, h => by rw [RP] at h; subst h; exact .str x
  | .list l, v, h => by
    rw [RP] at h
    obtain ⟨a, vs, rfl, h1, h2, h3⟩ := h
    exact .lst (.of h1) (RPs.dp l vs h3)
  | .tuple l, v, h => by
    rw [RP] at h
    obtain ⟨a, vs, rfl, h1, h3⟩ := h
    exact .tup (.of h1) (RPs.dp l vs h3)
  | .dict _, v, h => by rw [RP] at h; exact h.elim
theorem RPs.dp : ∀ (l : List PyData) (vs : List V), RPs K H L l vs → DpAll K.K H vs l
  | [], vs, h => by rw [RPs] at h; subst h; exact .nil
  | d :: l, vs, h => by
    rw [RPs] at h
    obtain ⟨v, r, rfl, h1, h2⟩ := h
    exact .cons (RP.dp d v h1) (RPs.dp l r h2)
end

/-! ### steps of the heap -/
theorem lvAddr (r : Rl K m S H) {a : Addr} (h : lv K m S a) : ∃ u, H a = some u ∧ Mb u := by
  rcases h with h | ⟨n, o, e1, e2, e3⟩
  · exact (r.hid a h).2
  · have q := r.obj n a o e1 e2
    cases o with
    | lst l => obtain ⟨vs, h, _⟩ := q; exact ⟨_, h, trivial⟩
    | dic l => obtain ⟨vs, h, _⟩ := q; exact ⟨_, h, trivial⟩
    | fz l => cases e3
theorem sqT_upd {a b : Addr} {o : HO} {vs : List V} (h : H a = some (.tup vs)) (hb : H b = none ∨ ∃ u, H b = some u ∧ Mb u) : upd H b o a = some (.tup vs) := by
  have ne : a ≠ b := by
    rintro rfl
    rcases hb with q | ⟨u, q, mu⟩
    · rw [h] at q; cases q
    · rw [h] at q; cases q; exact mu
  rw [upd_ne ne]
  exact h
theorem Rl.hne (r : Rl K m S H) {a p : Addr} (h : K.h a) (hp : H p = none) : a ≠ p := by
  rintro rfl
  obtain ⟨u, e, _⟩ := (r.hid a h).2
  rw [hp] at e; cases e
/-- a new thing that is not kept as a changing one -/
theorem Nx.new (r : Rl K m S H) {p : Addr} {o : HO} (hp : H p = none) : Nx K m S H m S (upd H p o) :=
  ⟨fun a vs h => sqT_upd h (.inl hp), fun a vs h n => ⟨by rw [upd_ne (ne_of_none h hp)]; exact h, n⟩, ⟨[], by simp⟩, fun a x u h => by rw [upd_ne (ne_of_none h hp)]; exact h, fun a u h => by rw [upd_ne (ne_of_none h hp)]; exact h,
    fun a h => upd_ne (r.hne h hp)⟩
end
end DL

namespace DL
open PySem PySem.Spec PyProof.Rows L2
section
variable {K : Kh} {m m' m1 m2 : List Addr} {S S' S1 S2 : Sto} {H H' H1 H2 : Hp} {a p : Addr} {n : Nat}
theorem RO.nx (x : Nx K m S H m' S' H') {o : O} (h : RO K m S H a o) (e : H' a = H a) : RO K m' S' H' a o := by
  cases o with
  | lst l => obtain ⟨vs, q, r⟩ := h; exact ⟨vs, e.trans q, r.nx x⟩
  | fz l => obtain ⟨vs, q, r⟩ := h; exact ⟨vs, e.trans q, r.nx x⟩
  | dic l => obtain ⟨ws, q, r⟩ := h; exact ⟨ws, e.trans q, r.nx x⟩
theorem RO.some {o : O} (h : RO K m S H a o) : ∃ u, H a = some u := by
  cases o with
  | lst l => obtain ⟨vs, q, _⟩ := h; exact ⟨_, q⟩
  | fz l => obtain ⟨vs, q, _⟩ := h; exact ⟨_, q⟩
  | dic l => obtain ⟨ws, q, _⟩ := h; exact ⟨_, q⟩
theorem Rl.at (r : Rl K m S H) (em : m[n]? = some a) : ∃ o, S[n]? = some o ∧ RO K m S H a o := by
  have h := (List.getElem?_eq_some_iff.mp em).1
  have h2 : n < S.length := by rw [← r.len]; exact h
  exact ⟨S[n], List.getElem?_eq_getElem h2, r.obj n a _ em (List.getElem?_eq_getElem h2)⟩
theorem Rl.adr (r : Rl K m S H) {o : O} (es : S[n]? = some o) : ∃ a, m[n]? = some a ∧ RO K m S H a o := by
  have h := (List.getElem?_eq_some_iff.mp es).1
  have h2 : n < m.length := by rw [r.len]; exact h
  exact ⟨m[n], List.getElem?_eq_getElem h2, r.obj n _ o (List.getElem?_eq_getElem h2) es⟩
theorem Rl.in_some (r : Rl K m S H) (h : a ∈ m) : ∃ u, H a = some u := by
  obtain ⟨n, e⟩ := List.mem_iff_getElem?.mp h
  obtain ⟨o, _, q⟩ := r.at e
  exact q.some
/-- a new thing, untold -/
theorem Rl.new {o : HO} (r : Rl K m S H) (hp : H p = none) : Rl K m S (upd H p o) := by
  refine ⟨r.len, r.nd, fun a h => ⟨(r.hid a h).1, by rw [upd_ne (r.hne h hp)]; exact (r.hid a h).2⟩, fun n a x em es => ?_⟩
  have q := r.obj n a x em es
  obtain ⟨u, hu⟩ := q.some
  exact q.nx (Nx.new r hp) (upd_ne (ne_of_none hu hp))
theorem nodup_ne {l : List Addr} (h : l.Nodup) {i j : Nat} {x y : Addr} (hi : l[i]? = some x) (hj : l[j]? = some y) (ne : i ≠ j) : x ≠ y := by
  rintro rfl
  obtain ⟨h1, e1⟩ := List.getElem?_eq_some_iff.mp hi
  obtain ⟨h2, e2⟩ := List.getElem?_eq_some_iff.mp hj
  exact ne ((List.getElem_inj h).mp (e1.trans e2.symm))
theorem lv_set {o o' : O} (es : S[n]? = some o) (ol : O.live o = true) (h : lv K m (S.set n o') a) : lv K m S a := by
  rcases h with h | ⟨k, x, e1, e2, e3⟩
  · exact .inl h
  · by_cases hk : n = k
    · subst hk
      exact .inr ⟨n, o, e1, es, ol⟩
    · rw [List.getElem?_set_ne hk] at e2
      exact .inr ⟨k, x, e1, e2, e3⟩
/-- more is being made: nothing told so far speaks of it -/
theorem RP.nxh {h' : Addr → Prop} (x : Nx K m S H m' S' H') (hs : ∀ a, h' a → K.h a ∨ H a = none) {d : PyData} {v : V} (h : RP K H (lv K m S) d v) : RP ⟨K.K, h'⟩ H' (lv ⟨K.K, h'⟩ m' S') d v := by
  have key := RP.mono (K := K) (H' := H') (L' := lv ⟨K.K, h'⟩ m' S') x.tup (fun a vs e nl => by
    obtain ⟨e1, n1⟩ := x.lst a vs e nl
    refine ⟨e1, fun z => ?_⟩
    rcases z with z | z
    · rcases hs a z with q | q
      · exact nl (.inl q)
      · rw [e] at q; cases q
    · exact n1 (.inr z)) d v h
  exact RP.kk (K := K) (K' := ⟨K.K, h'⟩) rfl _ _ key
theorem RD.nxh {h' : Addr → Prop} (x : Nx K m S H m' S' H') (hs : ∀ a, h' a → K.h a ∨ H a = none) {d : D} {v : V} (h : RD K m S H d v) : RD ⟨K.K, h'⟩ m' S' H' d v := by
  cases d with
  | p d => exact RP.nxh x hs h
  | ob n => exact (RD.nx x (d := .ob n) h : RD K m' S' H' (.ob n) v)
  | scr ns => exact (RD.nx x (d := .scr ns) h : RD K m' S' H' (.scr ns) v)
  | xc a dd fs => exact (RD.nx x (d := .xc a dd fs) h : RD K m' S' H' (.xc a dd fs) v)
theorem RDs.nxh {h' : Addr → Prop} (x : Nx K m S H m' S' H') (hs : ∀ a, h' a → K.h a ∨ H a = none) {d : List D} {v : List V} (h : RDs K m S H d v) : RDs ⟨K.K, h'⟩ m' S' H' d v := pairMono (fun _ _ => RD.nxh x hs) h
theorem RE.nxh {h' : Addr → Prop} (x : Nx K m S H m' S' H') (hs : ∀ a, h' a → K.h a ∨ H a = none) {ρ : Env} {σ : St} (h : RE K m S H ρ σ) : RE ⟨K.K, h'⟩ m' S' H' ρ σ :=
  pairMono (fun _ _ q d e => let ⟨v, a, b⟩ := q d e; ⟨v, a, RD.nxh x hs b⟩) h
/-- what is no longer being made may be spoken of -/
theorem RD.unh {h' : Addr → Prop} (hs : ∀ a, h' a → K.h a) {d : D} {v : V} (h : RD K m S H d v) : RD ⟨K.K, h'⟩ m S H d v := by
  cases d with
  | p d =>
    refine RP.kk (K := K) (K' := ⟨K.K, h'⟩) rfl _ _ (RP.mono (K := K) (L' := lv ⟨K.K, h'⟩ m S) (fun _ _ q => q) (fun a vs e nl => ⟨e, fun z => nl ?_⟩) d v h)
    rcases z with z | z
    · exact .inl (hs a z)
    · exact .inr z
  | ob n => exact h
  | scr ns => exact h
  | xc a dd fs => exact h
theorem Rl.unh {h' : Addr → Prop} (hs : ∀ a, h' a → K.h a) (r : Rl K m S H) : Rl ⟨K.K, h'⟩ m S H := by
  refine ⟨r.len, r.nd, fun a h => r.hid a (hs a h), fun n a o em es => ?_⟩
  have q := r.obj n a o em es
  cases o with
  | lst l => obtain ⟨vs, e, q⟩ := q; exact ⟨vs, e, pairMono (fun _ _ => RD.unh hs) q⟩
  | fz l =>
    obtain ⟨vs, e, q⟩ := q
    exact ⟨vs, e, RDs_p.mp (pairMono (fun _ _ => RD.unh hs) (RDs_p.mpr q))⟩
  | dic l => obtain ⟨vs, e, q⟩ := q; exact ⟨vs, e, pairMono (fun _ _ q => ⟨q.1, RD.unh hs q.2⟩) q⟩
/-- a new thing that is being made -/
theorem Rl.hide {ho : HO} (r : Rl K m S H) (hp : H p = none) (mu : Mb ho) : Rl ⟨K.K, fun a => K.h a ∨ a = p⟩ m S (upd H p ho) := by
  have x := Nx.new (o := ho) r hp
  have hs : ∀ a, (K.h a ∨ a = p) → K.h a ∨ H a = none := fun a z => z.elim .inl fun z => .inr (by rw [z]; exact hp)
  refine ⟨r.len, r.nd, fun a h => ?_, fun n a o em es => ?_⟩
  · rcases h with h | h
    · exact ⟨(r.hid a h).1, by rw [upd_ne (r.hne h hp)]; exact (r.hid a h).2⟩
    · subst h
      exact ⟨fun z => (by
        obtain ⟨u, e⟩ := r.in_some z
        rw [hp] at e
        cases e), ho, upd_same, mu⟩
  · have q := r.obj n a o em es
    obtain ⟨u, hu⟩ := q.some
    have e : (upd H p ho) a = H a := upd_ne (ne_of_none hu hp)
    cases o with
    | lst l => obtain ⟨vs, e1, q⟩ := q; exact ⟨vs, e.trans e1, RDs.nxh x hs q⟩
    | fz l =>
      obtain ⟨vs, e1, q⟩ := q
      exact ⟨vs, e.trans e1, RDs_p.mp (RDs.nxh x hs (RDs_p.mpr q))⟩
    | dic l => obtain ⟨vs, e1, q⟩ := q; exact ⟨vs, e.trans e1, pairMono (fun _ _ q => ⟨q.1, RD.nxh x hs q.2⟩) q⟩
/-- .. is written -/
theorem hid_upd_lst {o : HO} (r : Rl K m S H) (hp : K.h p) : ∀ a vs, H a = some (.lst vs) → ¬ lv K m S a → (upd H p o) a = some (.lst vs) ∧ ¬ lv K m S a := fun a vs e nl =>
  ⟨by rw [upd_ne (fun z => nl (.inl (by rw [z]; exact hp)))]; exact e, nl⟩
theorem Rl.hidw {o : HO} (r : Rl K m S H) (hp : K.h p) (mu : Mb o) : Rl K m S (upd H p o) := by
  have ht : ∀ a vs, H a = some (.tup vs) → (upd H p o) a = some (.tup vs) := fun a vs h => sqT_upd h (.inr (r.hid p hp).2)
  have hl := hid_upd_lst (o := o) r hp
  have hd : ∀ {d : D} {v : V}, RD K m S H d v → RD K m S (upd H p o) d v := fun {d v} h => by
    cases d with
    | p d => exact RP.mono ht hl d v h
    | ob n => exact h
    | scr ns =>
      obtain ⟨a, rfl, h | h⟩ := h
      · obtain ⟨ob, h⟩ := h
        refine ⟨a, rfl, .inl ⟨ob, ?_⟩⟩
        rw [upd_ne fun z => ?_]
        · exact h
        · subst z
          obtain ⟨u, e, mu⟩ := (r.hid a hp).2
          rw [h] at e; cases e; exact mu
      · exact ⟨a, rfl, .inr h⟩
    | xc a dd fs =>
      refine ⟨h.1, fun d e => ?_⟩
      have q := h.2 d e
      rw [upd_ne fun z => ?_]
      · exact q
      · subst z
        obtain ⟨u, e2, mu⟩ := (r.hid d hp).2
        rw [q] at e2; cases e2; exact mu
  refine ⟨r.len, r.nd, fun a h => ?_, fun n a u em es => ?_⟩
  · refine ⟨(r.hid a h).1, ?_⟩
    by_cases e : a = p
    · subst e; exact ⟨o, upd_same, mu⟩
    · rw [upd_ne e]; exact (r.hid a h).2
  · have ne : a ≠ p := fun z => (r.hid p hp).1 (by rw [← z]; exact List.mem_of_getElem? em)
    have q := r.obj n a u em es
    cases u with
    | lst l => obtain ⟨vs, e1, q⟩ := q; exact ⟨vs, (upd_ne ne).trans e1, pairMono (fun _ _ => hd) q⟩
    | fz l =>
      obtain ⟨vs, e1, q⟩ := q
      exact ⟨vs, (upd_ne ne).trans e1, RPs.mono ht hl l vs q⟩
    | dic l => obtain ⟨vs, e1, q⟩ := q; exact ⟨vs, (upd_ne ne).trans e1, pairMono (fun _ _ q => ⟨q.1, hd q.2⟩) q⟩
/-- what stays, seen from ahead of the making -/
theorem Nx.hidden {h' : Addr → Prop} (x : Nx K m S H m1 S1 H1) (y : Nx ⟨K.K, h'⟩ m1 S1 H1 m2 S2 H2) (h1 : ∀ a, K.h a → h' a) (hs : ∀ a, h' a → K.h a ∨ H a = none) : Nx K m S H m2 S2 H2 := by
  refine ⟨fun a vs h => y.tup a vs (x.tup a vs h), fun a vs h n => ?_, ?_, fun a o u h => y.frz a o u (x.frz a o u h), fun a u h => y.xd a u (x.xd a u h), fun a h => (y.hid a (h1 a h)).trans (x.hid a h)⟩
  · obtain ⟨e, nl⟩ := x.lst a vs h n
    obtain ⟨e2, n2⟩ := y.lst a vs e (fun z => by
      rcases z with z | z
      · rcases hs a z with q | q
        · exact n (.inl q)
        · rw [h] at q; cases q
      · exact nl (.inr z))
    refine ⟨e2, fun z => n2 ?_⟩
    rcases z with z | z
    · exact .inl (h1 a z)
    · exact .inr z
  · obtain ⟨t, rfl⟩ := x.ext
    obtain ⟨t2, rfl⟩ := y.ext
    exact ⟨t ++ t2, by simp⟩
theorem Nx.hidw {o : HO} (x : Nx K m S H m1 S1 H1) (hp : H p = none) (r : ∃ u, H1 p = some u ∧ Mb u) (hk : ¬ K.h p) : Nx K m S H m1 S1 (upd H1 p o) := by
  refine ⟨fun a vs h => sqT_upd (x.tup a vs h) (.inr r), fun a vs h n => ?_, x.ext, fun a u w h => ?_, fun a u h => ?_, fun a h => ?_⟩
  · obtain ⟨e, nl⟩ := x.lst a vs h n
    exact ⟨by rw [upd_ne (ne_of_none h hp)]; exact e, nl⟩
  · rw [upd_ne (ne_of_none h hp)]; exact x.frz a u w h
  · rw [upd_ne (ne_of_none h hp)]; exact x.xd a u h
  · rw [upd_ne (fun z => hk (by rw [← z]; exact h))]; exact x.hid a h
/-- a changing thing is changed -/
theorem Nx.put {o o' : O} {ho : HO} (r : Rl K m S H) (em : m[n]? = some a) (es : S[n]? = some o) (ol : O.live o = true) : Nx K m S H m (S.set n o') (upd H a ho) := by
  have ha : lv K m S a := .inr ⟨n, o, em, es, ol⟩
  have hm : a ∈ m := List.mem_of_getElem? em
  refine ⟨fun b vs h => sqT_upd h (.inr (lvAddr r ha)), fun b vs h nl => ⟨?_, fun z => nl (lv_set es ol z)⟩, ⟨[], by simp⟩, fun b x u h => ?_, fun b u h => ?_, fun b h => ?_⟩
  · rw [upd_ne (fun z => nl (by rw [z]; exact ha))]; exact h
  · have ne : b ≠ a := by
      rintro rfl
      obtain ⟨u', q, mu⟩ := lvAddr r ha
      rw [h] at q; cases q; exact mu
    rw [upd_ne ne]; exact h
  · have ne : b ≠ a := by
      rintro rfl
      obtain ⟨u', q, mu⟩ := lvAddr r ha
      rw [h] at q; cases q; exact mu
    rw [upd_ne ne]; exact h
  · exact upd_ne fun z => (r.hid b h).1 (by rw [z]; exact hm)
theorem Rl.put {o o' : O} {ho : HO} (r : Rl K m S H) (em : m[n]? = some a) (es : S[n]? = some o) (ol : O.live o = true) (ok : RO K m (S.set n o') (upd H a ho) a o') : Rl K m (S.set n o') (upd H a ho) := by
  have hm : a ∈ m := List.mem_of_getElem? em
  refine ⟨by rw [List.length_set]; exact r.len, r.nd, fun b h => ⟨(r.hid b h).1, by rw [upd_ne fun z => (r.hid b h).1 (by rw [z]; exact hm)]; exact (r.hid b h).2⟩, fun k b x ek ex => ?_⟩
  by_cases hk : n = k
  · subst hk
    rw [em] at ek; cases ek
    rw [List.getElem?_set_self (List.getElem?_eq_some_iff.mp es).1] at ex; cases ex
    exact ok
  · rw [List.getElem?_set_ne hk] at ex
    exact (r.obj k b x ek ex).nx (Nx.put r em es ol) (upd_ne (nodup_ne r.nd ek em (Ne.symm hk)))
theorem Rl.putL {l l' : List D} {vs : List V} (r : Rl K m S H) (em : m[n]? = some a) (es : S[n]? = some (.lst l)) (h : RDs K m S H l' vs) : Rl K m (S.set n (.lst l')) (upd H a (.lst vs)) :=
  r.put em es rfl ⟨vs, upd_same, h.nx (Nx.put r em es rfl)⟩
theorem Rl.putT {l l' : List (List Key × D)} {vs : List (List Key × V)} (r : Rl K m S H) (em : m[n]? = some a) (es : S[n]? = some (.dic l)) (h : RKV K m S H l' vs) : Rl K m (S.set n (.dic l')) (upd H a (.dT vs)) :=
  r.put em es rfl ⟨vs, upd_same, h.nx (Nx.put r em es rfl)⟩
/-- a new changing thing -/
theorem lv_push {o : O} (r : Rl K m S H) (h : lv K (m ++ [p]) (S ++ [o]) a) : lv K m S a ∨ a = p := by
  rcases h with h | ⟨k, x, e1, e2, e3⟩
  · exact .inl (.inl h)
  · by_cases hk : k < m.length
    · rw [List.getElem?_append_left hk] at e1
      rw [List.getElem?_append_left (by rw [← r.len]; exact hk)] at e2
      exact .inl (.inr ⟨k, x, e1, e2, e3⟩)
    · rw [List.getElem?_append_right (Nat.le_of_not_lt hk)] at e1
      have : k - m.length = 0 := by
        have := (List.getElem?_eq_some_iff.mp e1).1
        simp at this
        omega
      rw [this] at e1
      exact .inr (Option.some.inj e1).symm
theorem Nx.push {o : O} {ho : HO} (r : Rl K m S H) (hp : H p = none) : Nx K m S H (m ++ [p]) (S ++ [o]) (upd H p ho) := by
  refine ⟨fun b vs h => sqT_upd h (.inl hp), fun b vs h nl => ⟨?_, fun z => ?_⟩, ⟨[p], rfl⟩, fun b x u h => ?_, fun b u h => ?_, fun b h => upd_ne (r.hne h hp)⟩
  · rw [upd_ne (ne_of_none h hp)]; exact h
  · rcases lv_push r z with z | z
    · exact nl z
    · subst z; rw [h] at hp; cases hp
  · rw [upd_ne (ne_of_none h hp)]; exact h
  · rw [upd_ne (ne_of_none h hp)]; exact h
theorem Rl.push {o : O} {ho : HO} (r : Rl K m S H) (hp : H p = none) (ok : RO K (m ++ [p]) (S ++ [o]) (upd H p ho) p o) : Rl K (m ++ [p]) (S ++ [o]) (upd H p ho) := by
  refine ⟨by simp [r.len], ?_, fun b h => ⟨fun z => ?_, by rw [upd_ne (r.hne h hp)]; exact (r.hid b h).2⟩, fun k b x ek ex => ?_⟩
  · rw [List.nodup_append]
    refine ⟨r.nd, by simp, fun x hx y hy => ?_⟩
    have : y = p := by simpa using hy
    subst this
    obtain ⟨u, hu⟩ := r.in_some hx
    exact ne_of_none hu hp
  · rcases List.mem_append.mp z with z | z
    · exact (r.hid b h).1 z
    · exact r.hne h hp (by simpa using z)
  · by_cases hk : k < m.length
    · rw [List.getElem?_append_left hk] at ek
      rw [List.getElem?_append_left (by rw [← r.len]; exact hk)] at ex
      have q := r.obj k b x ek ex
      obtain ⟨u, hu⟩ := q.some
      exact q.nx (Nx.push r hp) (upd_ne (ne_of_none hu hp))
    · rw [List.getElem?_append_right (Nat.le_of_not_lt hk)] at ek
      have h0 : k - m.length = 0 := by
        have := (List.getElem?_eq_some_iff.mp ek).1
        simp at this
        omega
      rw [h0] at ek
      have eb : b = p := (Option.some.inj ek).symm
      subst eb
      rw [List.getElem?_append_right (by rw [← r.len]; omega), ← r.len, h0] at ex
      have : x = o := (Option.some.inj ex).symm
      subst this
      exact ok
theorem Rl.pushL {l : List D} {vs : List V} (r : Rl K m S H) (hp : H p = none) (h : RDs K m S H l vs) : Rl K (m ++ [p]) (S ++ [.lst l]) (upd H p (.lst vs)) :=
  r.push hp ⟨vs, upd_same, h.nx (Nx.push r hp)⟩
theorem RD.push {o : O} (r : Rl K m S H) : RD K (m ++ [p]) (S ++ [o]) H' (.ob S.length) (.ref p) := by
  refine ⟨p, ?_, rfl⟩
  rw [← r.len, List.getElem?_append_right (Nat.le_refl _), Nat.sub_self]
  rfl
/-- a changing list comes to rest -/
theorem Nx.rest {l : List PyData} {o : O} (es : S[n]? = some o) (ol : O.live o = true) : Nx K m S H m (S.set n (.fz l)) H :=
  ⟨fun _ _ h => h, fun _ _ h nl => ⟨h, fun z => nl (lv_set es ol z)⟩, ⟨[], by simp⟩, fun _ _ _ h => h, fun _ _ h => h, fun _ _ => rfl⟩
theorem Rl.rest {l : List PyData} (r : Rl K m S H) (es : S[n]? = some (.lst (l.map .p))) : Rl K m (S.set n (.fz l)) H := by
  refine ⟨by rw [List.length_set]; exact r.len, r.nd, r.hid, fun k b x ek ex => ?_⟩
  by_cases hk : n = k
  · subst hk
    rw [List.getElem?_set_self (List.getElem?_eq_some_iff.mp es).1] at ex; cases ex
    obtain ⟨vs, q, h⟩ := r.obj n b _ ek es
    exact ⟨vs, q, RPs.nx (Nx.rest es rfl) (RDs_p.mp h)⟩
  · rw [List.getElem?_set_ne hk] at ex
    exact (r.obj k b x ek ex).nx (Nx.rest es rfl) rfl
theorem rest_not_lv {l : List PyData} (r : Rl K m S H) (em : m[n]? = some a) (es : S[n]? = some (.lst (l.map .p))) : ¬ lv K m (S.set n (.fz l)) a := by
  rintro (h | ⟨k, x, e1, e2, e3⟩)
  · exact (r.hid a h).1 (List.mem_of_getElem? em)
  · by_cases hk : n = k
    · subst hk
      rw [List.getElem?_set_self (List.getElem?_eq_some_iff.mp es).1] at e2; cases e2
      cases e3
    · exact nodup_ne r.nd e1 em (Ne.symm hk) rfl
/-- as a list at rest -/
theorem RD.rest {l : List PyData} (r : Rl K m S H) (em : m[n]? = some a) (es : S[n]? = some (.lst (l.map .p))) : RD K m (S.set n (.fz l)) H (.lst l) (.ref a) := by
  obtain ⟨vs, q, h⟩ := r.obj n a _ em es
  show RP _ _ _ _ _
  rw [RP]
  exact ⟨a, vs, rfl, q, rest_not_lv r em es, RPs.nx (Nx.rest es rfl) (RDs_p.mp h)⟩
/-! what stands only in what is left behind is dropped -/
def ClD (k : Nat) : D → Prop
  | .ob n => n < k
  | _ => True
def ClO (k : Nat) : O → Prop
  | .lst l => ∀ d ∈ l, ClD k d
  | .dic l => ∀ d ∈ l, ClD k d.2
  | .fz _ => True
def ClS (k : Nat) (S : Sto) : Prop := ∀ o ∈ S, ClO k o
theorem RD.cl {d : D} {v : V} (h : RD K m S H d v) : ClD m.length d := by
  cases d with
  | p _ => trivial
  | scr _ => trivial
  | xc _ _ _ => trivial
  | ob n =>
    obtain ⟨a, e, _⟩ := h
    exact (List.getElem?_eq_some_iff.mp e).1
theorem pairAll {α β : Type} {F : α → β → Prop} {P : α → Prop} (h : ∀ a b, F a b → P a) {l : List α} {r : List β} (q : Paired F l r) : ∀ a ∈ l, P a := by
  induction q with
  | nil => intro a h; cases h
  | cons x _ ih =>
    intro a ha
    rcases List.mem_cons.mp ha with rfl | ha
    · exact h _ _ x
    · exact ih a ha
theorem RO.cl {o : O} (h : RO K m S H a o) : ClO m.length o := by
  cases o with
  | lst l => obtain ⟨vs, _, r⟩ := h; exact pairAll (F := RD K m S H) (P := ClD m.length) (fun _ _ q => q.cl) r
  | dic l => obtain ⟨vs, _, r⟩ := h; exact pairAll (F := fun (p : List Key × D) (q : List Key × V) => p.1 = q.1 ∧ RD K m S H p.2 q.2) (P := fun (d : List Key × D) => ClD m.length d.2) (fun _ _ q => q.2.cl) r
  | fz l => trivial
theorem Rl.cl (r : Rl K m S H) : ClS S.length S := fun o ho => by
  obtain ⟨n, e⟩ := List.mem_iff_getElem?.mp ho
  obtain ⟨a, _, q⟩ := r.adr e
  rw [← r.len]
  exact q.cl
theorem lv_drop {k : Nat} {T : Sto} (hk : S.length = k) (h : lv K (m.take k) S a) : lv K m (S ++ T) a := by
  rcases h with h | ⟨i, x, e1, e2, e3⟩
  · exact .inl h
  · have hi : i < k := by rw [← hk]; exact (List.getElem?_eq_some_iff.mp e2).1
    rw [List.getElem?_take_of_lt hi] at e1
    exact .inr ⟨i, x, e1, by rw [List.getElem?_append_left (by rw [hk]; exact hi)]; exact e2, e3⟩
theorem RD.drop {T : Sto} {d : D} {v : V} (h : RD K m (S ++ T) H d v) (c : ClD S.length d) : RD K (m.take S.length) S H d v := by
  cases d with
  | p d => exact RP.mono (fun _ _ q => q) (fun _ _ q nl => ⟨q, fun z => nl (lv_drop rfl z)⟩) d v h
  | scr _ => exact h
  | xc _ _ _ => exact h
  | ob n =>
    obtain ⟨a, e, rfl⟩ := h
    exact ⟨a, by rw [List.getElem?_take_of_lt c]; exact e, rfl⟩
theorem pairMonoIn {α β : Type} {F G : α → β → Prop} {l : List α} {r : List β} (h : ∀ a ∈ l, ∀ b, F a b → G a b) (q : Paired F l r) : Paired G l r := by
  induction q with
  | nil => exact .nil
  | cons a _ ih => exact .cons (h _ List.mem_cons_self _ a) (ih fun x hx => h x (List.mem_cons_of_mem _ hx))
theorem Rl.drop {T : Sto} (r : Rl K m (S ++ T) H) (c : ClS S.length S) : Rl K (m.take S.length) S H := by
  have hl : S.length ≤ m.length := by rw [r.len]; simp
  refine ⟨by rw [List.length_take]; omega, r.nd.sublist (List.take_sublist _ _), fun a h => ⟨fun z => (r.hid a h).1 (List.mem_of_mem_take z), (r.hid a h).2⟩, fun n a o em es => ?_⟩
  have hn : n < S.length := (List.getElem?_eq_some_iff.mp es).1
  rw [List.getElem?_take_of_lt hn] at em
  have q := r.obj n a o em (by rw [List.getElem?_append_left hn]; exact es)
  have co := c o (List.mem_of_getElem? es)
  cases o with
  | lst l =>
    obtain ⟨vs, h1, h2⟩ := q
    exact ⟨vs, h1, pairMonoIn (fun d hd v h => RD.drop h (co d hd)) h2⟩
  | dic l =>
    obtain ⟨vs, h1, h2⟩ := q
    exact ⟨vs, h1, pairMonoIn (fun d hd v h => ⟨h.1, RD.drop h.2 (co d hd)⟩) h2⟩
  | fz l =>
    obtain ⟨vs, h1, h2⟩ := q
    exact ⟨vs, h1, RPs.mono (fun _ _ q => q) (fun _ _ q nl => ⟨q, fun z => nl (lv_drop rfl z)⟩) l vs h2⟩
theorem Nx.drop {T : Sto} (x : Nx K m S H m' (S' ++ T) H') (r : Rl K m S H) (r' : Rl K m' (S' ++ T) H') (hl : S.length ≤ S'.length) : Nx K m S H (m'.take S'.length) S' H' := by
  refine ⟨x.tup, fun a vs h n => ?_, ?_, x.frz, x.xd, x.hid⟩
  · obtain ⟨h1, h2⟩ := x.lst a vs h n
    exact ⟨h1, fun z => h2 (lv_drop rfl z)⟩
  · obtain ⟨t, rfl⟩ := x.ext
    refine ⟨t.take (S'.length - m.length), ?_⟩
    rw [List.take_append]
    rw [List.take_of_length_le (by rw [r.len]; exact hl)]
end
end DL

namespace DL
open PySem PySem.Spec PyProof.Rows L2
/-! ### what a term computes -/
/-- a raised thing: its class by name, its fields -/
structure Xc where
  c : Str
  fs : List (Str × PyData)
inductive Rs (α : Type) where
  | st
  | ok (a : α) (S : Sto)
  | ex (x : Xc) (S : Sto)
def Rs.bind {α β : Type} (r : Rs α) (f : α → Sto → Rs β) : Rs β := match r with
  | .st => .st
  | .ok a S => f a S
  | .ex x S => .ex x S
abbrev ED := Env → Sto → Rs D
abbrev AD := Env → Sto → Rs (List D)
abbrev BD := Env → Sto → Rs Bool
inductive Out where
  | st
  | nx (ρ : Env) (S : Sto)
  | bk (ρ : Env) (S : Sto)
  | ct (ρ : Env) (S : Sto)
  | rt (d : D) (S : Sto)
  | ex (x : Xc) (ρ : Env) (S : Sto)
abbrev SD := Env → Sto → Out
def liftS {α : Type} (ρ : Env) (r : Rs α) (k : α → Sto → Out) : Out := match r with
  | .st => .st
  | .ok a S => k a S
  | .ex x S => .ex x ρ S
@[simp] theorem Rs.bind_ok {α β : Type} (a : α) (S : Sto) (f : α → Sto → Rs β) : Rs.bind (.ok a S) f = f a S := rfl
@[simp] theorem liftS_ok {α : Type} (ρ : Env) (a : α) (S : Sto) (k : α → Sto → Out) : liftS ρ (.ok a S) k = k a S := rfl

def RX (mg : Str → Option Value) (K : Kh) (L : Addr → Prop) (H : Hp) (x : Xc) (c : Value) (dd : Option Addr) : Prop :=
  mg x.c = some c ∧ ((x.fs = [] ∧ dd = none) ∨ ∃ a, dd = some a ∧ x.fs ≠ [] ∧ H a = some (.xd (sVs x.fs)))

abbrev KX (X : Cx) (κ : Addr → Prop) : Kh := ⟨X.K, κ⟩
def Post (X : Cx) (κ : Addr → Prop) (W : WX) (m : List Addr) (S : Sto) (H : Hp) (σ : St) {α β : Type} (R : List Addr → Sto → Hp → α → β → Prop) (r : Rs α) (Q : β → Hp → Prop) : Prop := match r with
  | .st => False
  | .ok d S' => ∀ v H' m', Nx (KX X κ) m S H m' S' H' → Rl (KX X κ) m' S' H' → R m' S' H' d v → Q v H'
  | .ex x S' => ∀ H' m' c dd, Nx (KX X κ) m S H m' S' H' → Rl (KX X κ) m' S' H' → RX X.mg (KX X κ) (lv (KX X κ) m' S') H' x c dd → W c dd σ H'
def PostS (X : Cx) (κ : Addr → Prop) (W : WX) (m : List Addr) (S : Sto) (H : Hp) (o : Out) (Dn : Ends) : Prop := match o with
  | .st => False
  | .nx ρ S' => ∀ σ' H' m', Nx (KX X κ) m S H m' S' H' → Rl (KX X κ) m' S' H' → RE (KX X κ) m' S' H' ρ σ' → Dn.nx σ' H'
  | .bk ρ S' => ∀ σ' H' m', Nx (KX X κ) m S H m' S' H' → Rl (KX X κ) m' S' H' → RE (KX X κ) m' S' H' ρ σ' → Dn.bk σ' H'
  | .ct ρ S' => ∀ σ' H' m', Nx (KX X κ) m S H m' S' H' → Rl (KX X κ) m' S' H' → RE (KX X κ) m' S' H' ρ σ' → Dn.ct σ' H'
  | .rt d S' => ∀ v H' m', Nx (KX X κ) m S H m' S' H' → Rl (KX X κ) m' S' H' → RD (KX X κ) m' S' H' d v → Dn.rt v H'
  | .ex x ρ S' => ∀ σ' H' m' c dd, Nx (KX X κ) m S H m' S' H' → Rl (KX X κ) m' S' H' → RE (KX X κ) m' S' H' ρ σ' → RX X.mg (KX X κ) (lv (KX X κ) m' S') H' x c dd → W c dd σ' H'
def Imp (X : Cx) (W : WX) {α β : Type} (R : Kh → List Addr → Sto → Hp → α → β → Prop) (t : St → Hp → (β → Hp → Prop) → Prop) (f : Env → Sto → Rs α) : Prop :=
  ∀ κ ρ S σ H m Q, Rl (KX X κ) m S H → RE (KX X κ) m S H ρ σ → Post X κ W m S H σ (R (KX X κ)) (f ρ S) Q → t σ H Q
def ImpS (X : Cx) (W : WX) (t : TS) (f : SD) : Prop :=
  ∀ κ ρ S σ H m Dn, Rl (KX X κ) m S H → RE (KX X κ) m S H ρ σ → PostS X κ W m S H (f ρ S) Dn → t Dn σ H
abbrev RB : Kh → List Addr → Sto → Hp → Bool → Bool → Prop := fun _ _ _ _ a b => a = b
structure DE (X : Cx) (W : WX) (e : Expr) (f : ED) : Prop where
  ex : ∃ t : TE, PE X e t ∧ Imp X W RD t f
structure DA (X : Cx) (W : WX) (es : List Expr) (f : AD) : Prop where
  ex : ∃ t : TA, PA X es t ∧ Imp X W RDs t f
structure DT (X : Cx) (W : WX) (e : Expr) (f : BD) : Prop where
  ex : ∃ t : TT, PT X e t ∧ Imp X W RB t f
structure DW (X : Cx) (W : WX) (e : Expr) (f : BD) : Prop where
  ex : ∃ t : TT, PW X e t ∧ Imp X W RB t f
structure DS (X : Cx) (W : WX) (st : Stmt) (f : SD) : Prop where
  ex : ∃ t : TS, PS X st t ∧ ImpS X W t f
structure DSs (X : Cx) (W : WX) (st : List Stmt) (f : SD) : Prop where
  ex : ∃ t : TS, PSs X st t ∧ ImpS X W t f

section
variable {X : Cx} {W : WX} {m m1 : List Addr} {S S1 : Sto} {H H1 : Hp} {σ : St} {α α' β β' : Type} {ρ : Env}
theorem Post.nx {R : List Addr → Sto → Hp → α → β → Prop} {r : Rs α} {Q : β → Hp → Prop} (x : Nx (KX X κ) m S H m1 S1 H1) (h : Post X κ W m S H σ R r Q) : Post X κ W m1 S1 H1 σ R r Q := by
  cases r with
  | st => exact h
  | ok d S' => exact fun v H' m' y rl r => h v H' m' (x.trans y) rl r
  | ex e S' => exact fun H' m' c dd y rl r => h H' m' c dd (x.trans y) rl r
theorem PostS.nx {o : Out} {Dn : Ends} (x : Nx (KX X κ) m S H m1 S1 H1) (h : PostS X κ W m S H o Dn) : PostS X κ W m1 S1 H1 o Dn := by
  cases o with
  | st => exact h
  | nx ρ S' => exact fun σ' H' m' y => h σ' H' m' (x.trans y)
  | bk ρ S' => exact fun σ' H' m' y => h σ' H' m' (x.trans y)
  | ct ρ S' => exact fun σ' H' m' y => h σ' H' m' (x.trans y)
  | rt ρ S' => exact fun σ' H' m' y => h σ' H' m' (x.trans y)
  | ex e ρ S' => exact fun σ' H' m' c dd y => h σ' H' m' c dd (x.trans y)
/-- one part behind another -/
theorem Imp.seq {Ra : Kh → List Addr → Sto → Hp → α → β → Prop} {Rb : List Addr → Sto → Hp → α' → β' → Prop} {ta : St → Hp → (β → Hp → Prop) → Prop} {fa : Env → Sto → Rs α} {k : α → Sto → Rs α'} {Q : β' → Hp → Prop} {C : β → Hp → Prop}
    (ha : Imp X W Ra ta fa) (rl : Rl (KX X κ) m S H) (re : RE (KX X κ) m S H ρ σ) (h : Post X κ W m S H σ Rb ((fa ρ S).bind k) Q)
    (hk : ∀ d S1 v H1 m1, Nx (KX X κ) m S H m1 S1 H1 → Rl (KX X κ) m1 S1 H1 → RE (KX X κ) m1 S1 H1 ρ σ → Ra (KX X κ) m1 S1 H1 d v → Post X κ W m1 S1 H1 σ Rb (k d S1) Q → C v H1) : ta σ H C := by
  refine ha κ ρ S σ H m C rl re ?_
  cases e : fa ρ S with
  | st => rw [e] at h; exact h
  | ok d S1 =>
    rw [e] at h
    exact fun v H1 m1 x rl1 r1 => hk d S1 v H1 m1 x rl1 (re.nx x) r1 (Post.nx x h)
  | ex y S1 =>
    rw [e] at h
    exact h
theorem Imp.seqS {Ra : Kh → List Addr → Sto → Hp → α → β → Prop} {ta : St → Hp → (β → Hp → Prop) → Prop} {fa : Env → Sto → Rs α} {k : α → Sto → Out} {Dn : Ends} {C : β → Hp → Prop}
    (ha : Imp X W Ra ta fa) (rl : Rl (KX X κ) m S H) (re : RE (KX X κ) m S H ρ σ) (h : PostS X κ W m S H (liftS ρ (fa ρ S) k) Dn)
    (hk : ∀ d S1 v H1 m1, Nx (KX X κ) m S H m1 S1 H1 → Rl (KX X κ) m1 S1 H1 → RE (KX X κ) m1 S1 H1 ρ σ → Ra (KX X κ) m1 S1 H1 d v → PostS X κ W m1 S1 H1 (k d S1) Dn → C v H1) : ta σ H C := by
  refine ha κ ρ S σ H m C rl re ?_
  cases e : fa ρ S with
  | st => rw [e] at h; exact h
  | ok d S1 =>
    rw [e] at h
    exact fun v H1 m1 x rl1 r1 => hk d S1 v H1 m1 x rl1 (re.nx x) r1 (PostS.nx x h)
  | ex y S1 =>
    rw [e] at h
    exact fun H' m' c dd x rl1 r1 => h σ H' m' c dd x rl1 (re.nx x) r1
theorem Post.ok' {R : List Addr → Sto → Hp → α → β → Prop} {a : α} {Q : β → Hp → Prop} (h : Post X κ W m S H σ R (.ok a S1) Q) {v : β} {H' : Hp} {m' : List Addr} (x : Nx (KX X κ) m S H m' S1 H') (r : Rl (KX X κ) m' S1 H') (q : R m' S1 H' a v) : Q v H' := h v H' m' x r q

/-! ### names, constants -/
def eVar (i : Nat) : ED := fun ρ S => match ρ[i]? with
  | some (some d) => .ok d S
  | _ => .st
def eC (d : PyData) : ED := fun _ S => .ok (.p d) S
theorem de_var {i : Nat} {x : Str} {pos : Pos} (hN : X.N[i]? = some x) (hv : Vis X.env.scope x) (hd : (x == ("__debug__" : Str)) = false := by decide) (hcd : (x == ("__classdict__" : Str)) = false := by decide) : DE X W (.Name x pos) (eVar i) := by
  refine ⟨tVar i, pe_var hN hv hd hcd, fun κ ρ S σ H m Q rl re h => ?_⟩
  unfold eVar at h
  split at h
  · rename_i d e
    obtain ⟨v, e1, q⟩ := pairGet re e
    obtain ⟨u, rfl, r⟩ := q d rfl
    exact ⟨u, e1, h.ok' .refl rl r⟩
  · exact h.elim
theorem de_int {i : Int} {j : Nat} {pos : Pos} : DE X W (.Constant (.int i) j pos) (eC (.int i)) :=
  ⟨_, pe_int, fun κ ρ S σ H m Q rl re h => h.ok' .refl rl (by show RP _ _ _ _ _; rw [RP])⟩
theorem de_bl {b : Bool} {j : Nat} {pos : Pos} : DE X W (.Constant (.bool b) j pos) (eC (.bool b)) :=
  ⟨_, pe_bl, fun κ ρ S σ H m Q rl re h => h.ok' .refl rl (by show RP _ _ _ _ _; rw [RP])⟩
theorem de_non {j : Nat} {pos : Pos} : DE X W (.Constant .none j pos) (eC .none) :=
  ⟨_, pe_non, fun κ ρ S σ H m Q rl re h => h.ok' .refl rl (by show RP _ _ _ _ _; rw [RP])⟩
theorem de_str {x : Str} {j : Nat} {pos : Pos} : DE X W (.Constant (.str x) j pos) (eC (.str x)) :=
  ⟨_, pe_str, fun κ ρ S σ H m Q rl re h => h.ok' .refl rl (by show RP _ _ _ _ _; rw [RP])⟩
/-! shapes of data -/
theorem RD.int {i : Int} {v : V} (h : RD (KX X κ) m S H (.int i) v) : v = .int i := by
  have h : RP _ _ _ _ _ := h
  rw [RP] at h; exact h
theorem RD.bl {i : Bool} {v : V} (h : RD (KX X κ) m S H (.bl i) v) : v = .bl i := by
  have h : RP _ _ _ _ _ := h
  rw [RP] at h; exact h
theorem RD.str {i : Str} {v : V} (h : RD (KX X κ) m S H (.str i) v) : v = .str i := by
  have h : RP _ _ _ _ _ := h
  rw [RP] at h; exact h
theorem RD.non {v : V} (h : RD (KX X κ) m S H .non v) : v = .non := by
  have h : RP _ _ _ _ _ := h
  rw [RP] at h; exact h
theorem RD.int_ {i : Int} : RD (KX X κ) m S H (.int i) (.int i) := by show RP _ _ _ _ _; rw [RP]
theorem RD.bl_ {i : Bool} : RD (KX X κ) m S H (.bl i) (.bl i) := by show RP _ _ _ _ _; rw [RP]
theorem RD.str_ {i : Str} : RD (KX X κ) m S H (.str i) (.str i) := by show RP _ _ _ _ _; rw [RP]
theorem RD.non_ : RD (KX X κ) m S H .non .non := by show RP _ _ _ _ _; rw [RP]
theorem RD.tup {l : List PyData} {v : V} (h : RD (KX X κ) m S H (.tup l) v) : ∃ a vs, v = .ref a ∧ SqT X.K H a vs ∧ RDs (KX X κ) m S H (l.map .p) vs := by
  have h : RP _ _ _ _ _ := h
  rw [RP] at h
  obtain ⟨a, vs, e, h1, h2⟩ := h
  exact ⟨a, vs, e, .of h1, RDs_p.mpr h2⟩
theorem RD.lst {l : List PyData} {v : V} (h : RD (KX X κ) m S H (.lst l) v) : ∃ a vs, v = .ref a ∧ H a = some (.lst vs) ∧ RDs (KX X κ) m S H (l.map .p) vs := by
  have h : RP _ _ _ _ _ := h
  rw [RP] at h
  obtain ⟨a, vs, e, h1, _, h2⟩ := h
  exact ⟨a, vs, e, h1, RDs_p.mpr h2⟩
/-- plain data of a thing -/
def pOf (S : Sto) : D → Option PyData
  | .p d => some d
  | _ => none
def pAll : List D → Option (List PyData)
  | [] => some []
  | .p d :: l => (pAll l).map (d :: ·)
  | _ :: _ => none
theorem pAll_map : ∀ l : List PyData, pAll (l.map .p) = some l
  | [] => rfl
  | d :: l => by simp [pAll, pAll_map l]
theorem pAll_some : ∀ {l : List D} {r : List PyData}, pAll l = some r → l = r.map .p
  | [], r, h => by simp [pAll] at h; subst h; rfl
  | .p d :: l, r, h => by
    simp only [pAll, Option.map_eq_some_iff] at h
    obtain ⟨r', h1, rfl⟩ := h
    rw [pAll_some h1]
    rfl
  | .ob _ :: _, r, h => by simp [pAll] at h
  | .scr _ :: _, r, h => by simp [pAll] at h
  | .xc _ _ _ :: _, r, h => by simp [pAll] at h
/-- the items of a list that is read -/
def lItems (S : Sto) : D → Option (List D)
  | .p (.list l) => some (l.map .p)
  | .ob n => match S[n]? with
    | some (.lst l) => some l
    | some (.fz l) => some (l.map .p)
    | _ => none
  | .scr ns => some (ns.map .int)
  | _ => none
def tItems : D → Option (List D)
  | .p (.tuple l) => some (l.map .p)
  | _ => none
theorem RDs_ints : ∀ ns : List Int, RDs (KX X κ) m S H (ns.map D.int) (ns.map V.int)
  | [] => .nil
  | i :: ns => .cons RD.int_ (RDs_ints ns)
theorem RD.items {d : D} {v : V} {l : List D} (r : Rl (KX X κ) m S H) (h : RD (KX X κ) m S H d v) (e : lItems S d = some l) : ∃ a vs, v = .ref a ∧ SqL X.K H a vs ∧ RDs (KX X κ) m S H l vs := by
  unfold lItems at e
  split at e
  · cases e
    obtain ⟨a, vs, rfl, h1, h2⟩ := h.lst
    exact ⟨a, vs, rfl, .of h1, h2⟩
  · rename_i n
    obtain ⟨a, em, rfl⟩ := h
    obtain ⟨o, es, ro⟩ := r.at em
    split at e
    · rename_i q
      rw [q] at es; cases es; cases e
      obtain ⟨vs, h1, h2⟩ := ro
      exact ⟨a, vs, rfl, .of h1, h2⟩
    · rename_i q
      rw [q] at es; cases es; cases e
      obtain ⟨vs, h1, h2⟩ := ro
      exact ⟨a, vs, rfl, .of h1, RDs_p.mpr h2⟩
    · cases e
  · rename_i ns
    cases e
    obtain ⟨a, rfl, h⟩ := h
    refine ⟨a, ns.map V.int, rfl, ?_, RDs_ints ns⟩
    rcases h with ⟨o, h⟩ | h
    · exact .inl (.inr ⟨o, h⟩)
    · rcases h with h | h
      · rcases h with h | ⟨_, h⟩ <;> cases h
      · exact .inr h
  · cases e
theorem RD.titems {d : D} {v : V} {l : List D} (h : RD (KX X κ) m S H d v) (e : tItems d = some l) : ∃ a vs, v = .ref a ∧ SqT X.K H a vs ∧ RDs (KX X κ) m S H l vs := by
  unfold tItems at e
  split at e
  · cases e
    exact h.tup
  · cases e
end
end DL

namespace DL
open PySem PySem.Spec PyProof.Rows L2
section
variable {X : Cx} {W : WX} {m m1 : List Addr} {S S1 : Sto} {H H1 : Hp} {σ : St} {ρ : Env} {κ : Addr → Prop}
/-! ### new things -/
theorem not_lv (r : Rl (KX X κ) m S H) {p : Addr} (hp : H p = none) : ¬ lv (KX X κ) m S p := fun z => by
  obtain ⟨u, q, _⟩ := lvAddr r z
  rw [hp] at q; cases q
theorem newL (r : Rl (KX X κ) m S H) {p : Addr} (hp : H p = none) {l : List PyData} {vs : List V} (h : RPs (KX X κ) H (lv (KX X κ) m S) l vs) : RD (KX X κ) m S (upd H p (.lst vs)) (.lst l) (.ref p) := by
  show RP _ _ _ _ _
  rw [RP]
  exact ⟨p, vs, rfl, upd_same, not_lv r hp, RPs.nx (Nx.new r hp) h⟩
theorem newT (r : Rl (KX X κ) m S H) {p : Addr} (hp : H p = none) {l : List PyData} {vs : List V} (h : RPs (KX X κ) H (lv (KX X κ) m S) l vs) : RD (KX X κ) m S (upd H p (.tup vs)) (.tup l) (.ref p) := by
  show RP _ _ _ _ _
  rw [RP]
  exact ⟨p, vs, rfl, upd_same, RPs.nx (Nx.new r hp) h⟩
theorem RDs_all {ds : List D} {l : List PyData} {vs : List V} (h : RDs (KX X κ) m S H ds vs) (e : pAll ds = some l) : RPs (KX X κ) H (lv (KX X κ) m S) l vs := by
  rw [pAll_some e] at h
  exact RDs_p.mp h
theorem RPs_app {l l' : List PyData} {vs vs' : List V} {L : Addr → Prop} (h : RPs (KX X κ) H L l vs) (h' : RPs (KX X κ) H L l' vs') : RPs (KX X κ) H L (l ++ l') (vs ++ vs') :=
  RPs_iff.mpr (pairApp (RPs_iff.mp h) (RPs_iff.mp h'))
theorem RPs_len {l : List PyData} {vs : List V} {L : Addr → Prop} (h : RPs (KX X κ) H L l vs) : l.length = vs.length := pairLen (RPs_iff.mp h)
/-- a list at rest or one that could rest -/
def vList (S : Sto) : D → Option (List PyData)
  | .p (.list l) => some l
  | .ob n => match S[n]? with
    | some (.lst l) => pAll l
    | some (.fz l) => some l
    | _ => none
  | _ => none
theorem RD.vlist {d : D} {v : V} {l : List PyData} (r : Rl (KX X κ) m S H) (h : RD (KX X κ) m S H d v) (e : vList S d = some l) : ∃ a vs, v = .ref a ∧ H a = some (.lst vs) ∧ RPs (KX X κ) H (lv (KX X κ) m S) l vs := by
  unfold vList at e
  split at e
  · cases e
    obtain ⟨a, vs, rfl, h1, h2⟩ := h.lst
    exact ⟨a, vs, rfl, h1, RDs_p.mp h2⟩
  · rename_i n
    obtain ⟨a, em, rfl⟩ := h
    obtain ⟨o, es, ro⟩ := r.at em
    split at e
    · rename_i q
      rw [q] at es; cases es
      obtain ⟨vs, h1, h2⟩ := ro
      exact ⟨a, vs, rfl, h1, RDs_all h2 e⟩
    · rename_i q
      rw [q] at es; cases es; cases e
      obtain ⟨vs, h1, h2⟩ := ro
      exact ⟨a, vs, rfl, h1, h2⟩
    · cases e
  · cases e

/-! ### operators by values -/
def OpD (X : Cx) (W : WX) (f : Value → Value → Sem Value) (g : D → D → Sto → Rs D) : Prop :=
  ∃ r : R2, OpR X f r ∧ ∀ κ x y vx vy m S H σ Q, Rl (KX X κ) m S H → RD (KX X κ) m S H x vx → RD (KX X κ) m S H y vy → Post X κ W m S H σ (RD (KX X κ)) (g x y S) Q → r vx vy H Q
def eBin (g : D → D → Sto → Rs D) (fa fb : ED) : ED := fun ρ S => (fa ρ S).bind fun x S1 => (fb ρ S1).bind fun y S2 => g x y S2
theorem imp_bin {g : D → D → Sto → Rs D} {r : R2} {ta tb : TE} {fa fb : ED} (hr : ∀ κ x y vx vy m S H σ Q, Rl (KX X κ) m S H → RD (KX X κ) m S H x vx → RD (KX X κ) m S H y vy → Post X κ W m S H σ (RD (KX X κ)) (g x y S) Q → r vx vy H Q)
    (ha : Imp X W RD ta fa) (hb : Imp X W RD tb fb) : Imp X W RD (tOp r ta tb) (eBin g fa fb) := by
  intro κ ρ S σ H m Q rl re h
  refine ha.seq rl re h fun d S1 v H1 m1 x1 rl1 re1 r1 h1 => ?_
  refine hb.seq rl1 re1 h1 fun d2 S2 v2 H2 m2 x2 rl2 re2 r2 h2 => ?_
  exact hr κ d d2 v v2 m2 S2 H2 σ Q rl2 (r1.nx x2) r2 h2
theorem de_bin {op : Operator} {a b : Expr} {pos : Pos} {g : D → D → Sto → Rs D} {fa fb : ED} (ho : OpD X W (binaryOp op) g) (ha : DE X W a fa) (hb : DE X W b fb) : DE X W (.BinOp a op b pos) (eBin g fa fb) := by
  obtain ⟨r, o, hr⟩ := ho
  obtain ⟨ta, pa, ia⟩ := ha
  obtain ⟨tb, pb, ib⟩ := hb
  exact ⟨_, pe_op o pa pb, imp_bin hr ia ib⟩

def gAdd : D → D → Sto → Rs D := fun x y S => match x, y with
  | .p (.int i), .p (.int j) => .ok (.int (i + j)) S
  | .p (.str a), .p (.str b) => if a.length + b.length ≤ sizeLine then .ok (.str (a ++ b)) S else .st
  | .p (.tuple a), .p (.tuple b) => if a.length + b.length ≤ sizeLine then .ok (.tup (a ++ b)) S else .st
  | x, y => match vList S x, vList S y with
    | some a, some b => if a.length + b.length ≤ sizeLine then .ok (.lst (a ++ b)) S else .st
    | _, _ => .st
theorem RD.tup' {l : List PyData} {v : V} (h : RD (KX X κ) m S H (.tup l) v) : ∃ a vs, v = .ref a ∧ H a = some (.tup vs) ∧ RPs (KX X κ) H (lv (KX X κ) m S) l vs := by
  have h : RP _ _ _ _ _ := h
  rw [RP] at h
  exact h
theorem RPs_nil {l : List PyData} {vs : List V} {L : Addr → Prop} (h : RPs (KX X κ) H L l vs) : vs = [] ↔ l = [] := by
  have := RPs_len h
  constructor
  · rintro rfl; exact List.length_eq_zero_iff.mp this
  · rintro rfl; exact List.length_eq_zero_iff.mp this.symm
theorem tup_of {l : List PyData} {a : Addr} {vs : List V} (h : H a = some (.tup vs)) (h2 : RPs (KX X κ) H (lv (KX X κ) m S) l vs) : RD (KX X κ) m S H (.tup l) (.ref a) := by
  show RP _ _ _ _ _
  rw [RP]
  exact ⟨a, vs, rfl, h, h2⟩
theorem od_add : OpD X W (binaryOp .Add) gAdd := by
  refine ⟨_, OpR.or op_add (OpR.or op_add_str (OpR.or op_catA op_cat)), fun κ x y vx vy m S H σ Q rl rx ry h => ?_⟩
  unfold gAdd at h
  split at h
  · exact .inl ⟨_, _, rx.int, ry.int, h.ok' .refl rl RD.int_⟩
  · split at h
    · rename_i hl
      exact .inr (.inl ⟨_, _, rx.str, ry.str, hl, h.ok' .refl rl RD.str_⟩)
    · exact h.elim
  · rename_i a b
    split at h
    · rename_i hl
      obtain ⟨p, xs, rfl, hx, rx⟩ := rx.tup'
      obtain ⟨q, ys, rfl, hy, ry⟩ := ry.tup'
      refine .inr (.inr (.inl ⟨p, q, xs, ys, rfl, rfl, .of hx, .of hy, by rw [← RPs_len rx, ← RPs_len ry]; exact hl, fun e => ?_, fun e1 e2 => ?_, fun _ _ z hz => ?_⟩))
      · have : a = [] := (RPs_nil rx).mp e
        subst this
        exact h.ok' .refl rl (tup_of hy ry)
      · have : b = [] := (RPs_nil ry).mp e2
        subst this
        rw [List.append_nil] at h
        exact h.ok' .refl rl (tup_of hx rx)
      · exact h.ok' (.new rl hz) (rl.new hz) (newT rl hz (RPs_app rx ry))
    · exact h.elim
  · split at h
    · rename_i a b ea eb
      split at h
      · rename_i hl
        obtain ⟨p, xs, rfl, hx, rx⟩ := rx.vlist rl ea
        obtain ⟨q, ys, rfl, hy, ry⟩ := ry.vlist rl eb
        exact .inr (.inr (.inr ⟨p, q, xs, ys, rfl, rfl, hx, hy, by rw [← RPs_len rx, ← RPs_len ry]; exact hl, fun z hz => h.ok' (.new rl hz) (rl.new hz) (newL rl hz (RPs_app rx ry))⟩))
      · exact h.elim
    · exact h.elim
/-- two ints -/
def gInt (C : Int → Int → Bool) (f : Int → Int → Int) : D → D → Sto → Rs D := fun x y S => match x, y with
  | .p (.int i), .p (.int j) => if C i j = true then .ok (.int (f i j)) S else .st
  | _, _ => .st
theorem od_int {op : Value → Value → Sem Value} {C : Int → Int → Prop} {f : Int → Int → Int} {c : Int → Int → Bool} (h : OpR X op (rI C fun i j => .int (f i j))) (hc : ∀ i j, c i j = true → C i j) : OpD X W op (gInt c f) := by
  refine ⟨_, h, fun κ x y vx vy m S H σ Q rl rx ry h => ?_⟩
  unfold gInt at h
  split at h
  · split at h
    · rename_i e
      exact ⟨_, _, rx.int, ry.int, hc _ _ e, h.ok' .refl rl RD.int_⟩
    · exact h.elim
  · exact h.elim
def gSub : D → D → Sto → Rs D := gInt (fun _ _ => true) fun i j => i - j
def gMul : D → D → Sto → Rs D := gInt (fun i j => decide (i.natAbs < 2 ^ 64) || decide (j.natAbs < 2 ^ 64)) fun i j => i * j
def gMod : D → D → Sto → Rs D := gInt (fun _ j => decide (0 < j)) fun i j => i % j
def gFdv : D → D → Sto → Rs D := gInt (fun _ j => decide (0 < j ∧ j < 1073741824)) fun i j => i / j
def gPow : D → D → Sto → Rs D := gInt (fun i j => decide (0 ≤ j ∧ j ≤ 1000000 ∧ i.natAbs < 2 ^ 64)) fun i j => i ^ j.toNat
theorem od_sub : OpD X W (binaryOp .Sub) gSub := by
  refine ⟨_, op_sub, fun κ x y vx vy m S H σ Q rl rx ry h => ?_⟩
  unfold gSub gInt at h
  split at h
  · rw [if_pos rfl] at h
    exact ⟨_, _, rx.int, ry.int, h.ok' .refl rl RD.int_⟩
  · exact h.elim
theorem od_mul : OpD X W (binaryOp .Mult) gMul := od_int op_mul fun i j h => by
  simp only [Bool.or_eq_true, decide_eq_true_eq] at h
  rcases h with h | h
  · exact .inl ⟨by omega, by omega⟩
  · exact .inr ⟨by omega, by omega⟩
theorem od_mod : OpD X W (binaryOp .Mod) gMod := od_int op_mod fun i j h => of_decide_eq_true h
theorem od_fdv : OpD X W (binaryOp .FloorDiv) gFdv := od_int op_fdiv fun i j h => (of_decide_eq_true h : 0 < j ∧ j < 1073741824)
theorem od_pow : OpD X W (binaryOp .Pow) gPow := od_int op_pow fun i j h => (of_decide_eq_true h : 0 ≤ j ∧ j ≤ 1000000 ∧ i.natAbs < 2 ^ 64)
/-- -x -/
def eNeg (fa : ED) : ED := fun ρ S => (fa ρ S).bind fun x S1 => match x with
  | .p (.int i) => .ok (.int (-i)) S1
  | _ => .st
theorem de_neg {a : Expr} {pos : Pos} {fa : ED} (ha : DE X W a fa) : DE X W (.UnaryOp .USub a pos) (eNeg fa) := by
  obtain ⟨ta, pa, ia⟩ := ha
  refine ⟨_, pe_un un_neg pa, fun κ ρ S σ H m Q rl re h => ?_⟩
  refine ia.seq rl re h fun d S1 v H1 m1 x1 rl1 re1 r1 h1 => ?_
  split at h1
  · exact ⟨_, r1.int, h1.ok' .refl rl1 RD.int_⟩
  · exact h1.elim

/-! ### comparisons -/
def scalD : PyData → PyData → Bool
  | .none, .none => true | .none, .int _ => true | .int _, .none => true | .none, .bool _ => true | .bool _, .none => true | .none, .str _ => true | .str _, .none => true
  | .int _, .int _ => true | .bool _, .bool _ => true | .str _, .str _ => true
  | .int _, .str _ => true | .str _, .int _ => true | .bool _, .str _ => true | .str _, .bool _ => true
  | _, _ => false
/-- what a thing is as plain data, as it stands -/
def pNow (S : Sto) : D → Option PyData
  | .p d => some d
  | x => (vList S x).map .list
theorem RD.now {d : D} {v : V} {p : PyData} (r : Rl (KX X κ) m S H) (h : RD (KX X κ) m S H d v) (e : pNow S d = some p) : Dp X.K H v p := by
  unfold pNow at e
  split at e
  · cases e; exact RP.dp _ _ h
  · simp only [Option.map_eq_some_iff] at e
    obtain ⟨l, e, rfl⟩ := e
    obtain ⟨a, vs, rfl, h1, h2⟩ := h.vlist r e
    exact .lst (.of h1) (RPs.dp _ _ h2)
def gEq (neg : Bool) : D → D → Sto → Rs D := fun x y S => match pNow S x, pNow S y with
  | some a, some b => if scalD a b = true then .ok (.bl (neg ^^ PyData.eqv a b)) S else
      if SeqAt.shaped a = true ∧ SeqAt.shaped b = true then .ok (.bl (neg ^^ PyData.eqv a b)) S else .st
  | _, _ => .st
theorem scal_now {a b : PyData} {va vb : V} (ha : Dp X.K H va a) (hb : Dp X.K H vb b) (h : scalD a b = true) : scal va vb = true ∧ decide (va = vb) = PyData.eqv a b := by
  cases ha <;> cases hb <;> first
    | (exact absurd (show false = true from h) Bool.false_ne_true)
    | (refine ⟨rfl, ?_⟩; simp [PyData.eqv, Bool.beq_eq_decide_eq]; done)
    | (refine ⟨rfl, ?_⟩; simp only [PyData.eqv]; rw [Bool.eq_iff_iff]; simp)
theorem od_eq (hu : X.A.units + 64 < cLine) : OpD X W (compareOp .Eq) (gEq false) := by
  refine ⟨_, OpR.or op_eq (op_eqD hu), fun κ x y vx vy m S H σ Q rl rx ry h => ?_⟩
  unfold gEq at h
  split at h
  · rename_i a b ea eb
    have da := rx.now rl ea
    have db := ry.now rl eb
    split at h
    · rename_i e
      obtain ⟨h1, h2⟩ := scal_now da db e
      exact .inl ⟨h1, by rw [h2]; exact h.ok' .refl rl (by rw [Bool.false_xor]; exact RD.bl_)⟩
    · split at h
      · rename_i e
        exact .inr ⟨a, b, da, db, e.1, e.2, h.ok' .refl rl (by rw [Bool.false_xor]; exact RD.bl_)⟩
      · exact h.elim
  · exact h.elim
theorem od_ne (hu : X.A.units + 64 < cLine) : OpD X W (compareOp .NotEq) (gEq true) := by
  refine ⟨_, OpR.or op_ne (op_neD hu), fun κ x y vx vy m S H σ Q rl rx ry h => ?_⟩
  unfold gEq at h
  split at h
  · rename_i a b ea eb
    have da := rx.now rl ea
    have db := ry.now rl eb
    split at h
    · rename_i e
      obtain ⟨h1, h2⟩ := scal_now da db e
      exact .inl ⟨h1, by rw [h2]; exact h.ok' .refl rl (by rw [Bool.true_xor]; exact RD.bl_)⟩
    · split at h
      · rename_i e
        exact .inr ⟨a, b, da, db, e.1, e.2, h.ok' .refl rl (by rw [Bool.true_xor]; exact RD.bl_)⟩
      · exact h.elim
  · exact h.elim
/-- two ints (or flat tuples of ints), in order -/
def intsOf : List PyData → Option (List Int)
  | [] => some []
  | .int i :: l => (intsOf l).map (i :: ·)
  | _ :: _ => none
def gOrd (f : Int → Int → Bool) (g : List Int → List Int → Bool) : D → D → Sto → Rs D := fun x y S => match x, y with
  | .p (.int i), .p (.int j) => .ok (.bl (f i j)) S
  | .p (.tuple a), .p (.tuple b) => match intsOf a, intsOf b with
    | some is, some js => .ok (.bl (g is js)) S
    | _, _ => .st
  | _, _ => .st
def gOrd0 (f : Int → Int → Bool) : D → D → Sto → Rs D := fun x y S => match x, y with
  | .p (.int i), .p (.int j) => .ok (.bl (f i j)) S
  | _, _ => .st
theorem od_ord0 {op : Value → Value → Sem Value} {f : Int → Int → Bool} (h : OpR X op (rI0 fun i j => .bl (f i j))) : OpD X W op (gOrd0 f) := by
  refine ⟨_, h, fun κ x y vx vy m S H σ Q rl rx ry h => ?_⟩
  unfold gOrd0 at h
  split at h
  · exact ⟨_, _, rx.int, ry.int, h.ok' .refl rl RD.bl_⟩
  · exact h.elim
def gLt := gOrd0 fun i j => decide (i < j)
def gLe := gOrd0 fun i j => decide (i ≤ j)
def gGt := gOrd0 fun i j => decide (j < i)
def gGe := gOrd0 fun i j => decide (j ≤ i)
theorem od_lt : OpD X W (compareOp .Lt) gLt := od_ord0 op_lt
theorem od_le : OpD X W (compareOp .LtE) gLe := od_ord0 op_le
theorem od_gt : OpD X W (compareOp .Gt) gGt := od_ord0 op_gt
theorem od_ge : OpD X W (compareOp .GtE) gGe := od_ord0 op_ge
/-- is None -/
def isNoneD : PyData → Bool
  | .none => true
  | _ => false
def gIsN (neg : Bool) : D → D → Sto → Rs D := fun x y S => match x, y with
  | .p a, .p .none => .ok (.bl (neg ^^ isNoneD a)) S
  | _, _ => .st
theorem isN_of {a : PyData} {v : V} (h : RD (KX X κ) m S H (.p a) v) : decide (v = .non) = isNoneD a := by
  have h := RP.dp _ _ h
  cases h <;> simp [isNoneD]
theorem od_is : OpD X W (compareOp .Is) (gIsN false) := by
  refine ⟨_, op_isN, fun κ x y vx vy m S H σ Q rl rx ry h => ?_⟩
  unfold gIsN at h
  split at h
  · exact ⟨ry.non, by rw [isN_of rx]; exact h.ok' .refl rl (by rw [Bool.false_xor]; exact RD.bl_)⟩
  · exact h.elim
theorem od_isnot : OpD X W (compareOp .IsNot) (gIsN true) := by
  refine ⟨_, op_notN, fun κ x y vx vy m S H σ Q rl rx ry h => ?_⟩
  unfold gIsN at h
  split at h
  · exact ⟨ry.non, by rw [isN_of rx]; exact h.ok' .refl rl (by rw [Bool.true_xor]; exact RD.bl_)⟩
  · exact h.elim
theorem de_cmp {op : CmpOp} {a b : Expr} {pos : Pos} {g : D → D → Sto → Rs D} {fa fb : ED} (ho : OpD X W (compareOp op) g) (ha : DE X W a fa) (hb : DE X W b fb) (hm : behindInMarks op b = false) : DE X W (.Compare a [op] [b] pos) (eBin g fa fb) := by
  obtain ⟨r, o, hr⟩ := ho
  obtain ⟨ta, pa, ia⟩ := ha
  obtain ⟨tb, pb, ib⟩ := hb
  exact ⟨_, pe_cmpR o pa pb hm, imp_bin hr ia ib⟩
/-- a bool value as a test -/
def asB (f : ED) : BD := fun ρ S => (f ρ S).bind fun x S1 => match x with
  | .p (.bool b) => .ok b S1
  | _ => .st
theorem imp_asB {t : TE} {f : ED} (h : Imp X W RD t f) : Imp X W RB (fun σ H (Q : Bool → Hp → Prop) => t σ H fun x H1 => ∃ k, x = .bl k ∧ Q k H1) (asB f) := by
  intro κ ρ S σ H m Q rl re hh
  refine h.seq rl re hh fun d S1 v H1 m1 x1 rl1 re1 r1 h1 => ?_
  split at h1
  · exact ⟨_, r1.bl, h1.ok' .refl rl1 rfl⟩
  · exact h1.elim
theorem dt_cmp {op : CmpOp} {a b : Expr} {pos : Pos} {g : D → D → Sto → Rs D} {fa fb : ED} (ho : OpD X W (compareOp op) g) (ha : DE X W a fa) (hb : DE X W b fb) (hm : behindInMarks op b = false) : DT X W (.Compare a [op] [b] pos) (asB (eBin g fa fb)) := by
  obtain ⟨r, o, hr⟩ := ho
  obtain ⟨ta, pa, ia⟩ := ha
  obtain ⟨tb, pb, ib⟩ := hb
  exact ⟨_, pt_cmpR o pa pb hm, imp_asB (imp_bin hr ia ib)⟩
def eChain (g g' : D → D → Sto → Rs D) (fa fb fc : ED) : ED := fun ρ S => (fa ρ S).bind fun x S1 => (fb ρ S1).bind fun y S2 => (g x y S2).bind fun z S3 => match z with
  | .p (.bool true) => (fc ρ S3).bind fun w S4 => g' y w S4
  | .p (.bool false) => .ok (.bl false) S3
  | _ => .st
theorem Post.seq' {r : R2} {g : D → D → Sto → Rs D} {x y : D} {vx vy : V} {k : D → Sto → Rs D} {Q : VK} {C : VK}
    (hr : ∀ Q, Post X κ W m S H σ (RD (KX X κ)) (g x y S) Q → r vx vy H Q) (re : RE (KX X κ) m S H ρ σ) (h : Post X κ W m S H σ (RD (KX X κ)) ((g x y S).bind k) Q)
    (hk : ∀ d S1 v H1 m1, Nx (KX X κ) m S H m1 S1 H1 → Rl (KX X κ) m1 S1 H1 → RE (KX X κ) m1 S1 H1 ρ σ → RD (KX X κ) m1 S1 H1 d v → Post X κ W m1 S1 H1 σ (RD (KX X κ)) (k d S1) Q → C v H1) : r vx vy H C := by
  refine hr C ?_
  cases e : g x y S with
  | st => rw [e] at h; exact h
  | ok d S1 =>
    rw [e] at h
    exact fun v H1 m1 x rl1 r1 => hk d S1 v H1 m1 x rl1 (re.nx x) r1 (Post.nx x h)
  | ex y S1 =>
    rw [e] at h
    exact h
theorem imp_chain {g g' : D → D → Sto → Rs D} {r r' : R2} {ta tb tc : TE} {fa fb fc : ED} (hr : ∀ κ x y vx vy m S H σ Q, Rl (KX X κ) m S H → RD (KX X κ) m S H x vx → RD (KX X κ) m S H y vy → Post X κ W m S H σ (RD (KX X κ)) (g x y S) Q → r vx vy H Q)
    (hr' : ∀ κ x y vx vy m S H σ Q, Rl (KX X κ) m S H → RD (KX X κ) m S H x vx → RD (KX X κ) m S H y vy → Post X κ W m S H σ (RD (KX X κ)) (g' x y S) Q → r' vx vy H Q)
    (ha : Imp X W RD ta fa) (hb : Imp X W RD tb fb) (hc : Imp X W RD tc fc) : Imp X W RD (tChain r r' ta tb tc) (eChain g g' fa fb fc) := by
  intro κ ρ S σ H m Q rl re h
  refine ha.seq rl re h fun d S1 v H1 m1 x1 rl1 re1 r1 h1 => ?_
  refine hb.seq rl1 re1 h1 fun d2 S2 v2 H2 m2 x2 rl2 re2 r2 h2 => ?_
  refine Post.seq' (fun Q h => hr κ d d2 v v2 m2 S2 H2 σ Q rl2 (r1.nx x2) r2 h) re2 h2 fun d3 S3 v3 H3 m3 x3 rl3 re3 r3 h3 => ?_
  split at h3
  · refine ⟨true, r3.bl, ?_⟩
    rw [if_pos rfl]
    refine hc.seq rl3 re3 h3 fun d4 S4 v4 H4 m4 x4 rl4 re4 r4 h4 => ?_
    exact hr' κ d2 d4 v2 v4 m4 S4 H4 σ Q rl4 ((r2.nx x3).nx x4) r4 h4
  · refine ⟨false, r3.bl, ?_⟩
    rw [if_neg Bool.false_ne_true]
    exact h3.ok' .refl rl3 RD.bl_
  · exact h3.elim
theorem de_chain {op op' : CmpOp} {a b c : Expr} {pos : Pos} {g g' : D → D → Sto → Rs D} {fa fb fc : ED} (ho : OpD X W (compareOp op) g) (ho' : OpD X W (compareOp op') g') (ha : DE X W a fa) (hb : DE X W b fb) (hc : DE X W c fc) (hl : lastMarks [op, op'] [b, c] = false := by rfl) :
    DE X W (.Compare a [op, op'] [b, c] pos) (eChain g g' fa fb fc) := by
  obtain ⟨r, o, hr⟩ := ho
  obtain ⟨r', o', hr'⟩ := ho'
  obtain ⟨ta, pa, ia⟩ := ha
  obtain ⟨tb, pb, ib⟩ := hb
  obtain ⟨tc, pc, ic⟩ := hc
  exact ⟨_, pe_chain o o' pa pb pc hl, imp_chain hr hr' ia ib ic⟩
theorem dt_chain {op op' : CmpOp} {a b c : Expr} {pos : Pos} {g g' : D → D → Sto → Rs D} {fa fb fc : ED} (ho : OpD X W (compareOp op) g) (ho' : OpD X W (compareOp op') g') (ha : DE X W a fa) (hb : DE X W b fb) (hc : DE X W c fc) (hl : lastMarks [op, op'] [b, c] = false := by rfl) :
    DT X W (.Compare a [op, op'] [b, c] pos) (asB (eChain g g' fa fb fc)) := by
  obtain ⟨r, o, hr⟩ := ho
  obtain ⟨r', o', hr'⟩ := ho'
  obtain ⟨ta, pa, ia⟩ := ha
  obtain ⟨tb, pb, ib⟩ := hb
  obtain ⟨tc, pc, ic⟩ := hc
  exact ⟨_, pt_chain o o' pa pb pc hl, imp_asB (imp_chain hr hr' ia ib ic)⟩
end
end DL

namespace DL
open PySem PySem.Spec PyProof.Rows L2
section
variable {X : Cx} {W : WX} {m m1 : List Addr} {S S1 : Sto} {H H1 : Hp} {σ : St} {ρ : Env} {κ : Addr → Prop}
/-! ### and, or, not, a if c else b -/
variable {a b c : Expr} {pos : Pos} {fa fb fc : ED} {ba bb : BD} {rest : List Expr}
def bAnd (f g : BD) : BD := fun ρ S => (f ρ S).bind fun x S1 => if x = true then g ρ S1 else .ok false S1
def bOr (f g : BD) : BD := fun ρ S => (f ρ S).bind fun x S1 => if x = true then .ok true S1 else g ρ S1
def bNot (f : BD) : BD := fun ρ S => (f ρ S).bind fun x S1 => .ok (!x) S1
theorem DW.pt (h : DW X W a ba) : DT X W a ba := by
  obtain ⟨t, p, i⟩ := h
  exact ⟨t, p.pt, i⟩
theorem dw_and1 (ha : DT X W a ba) : DW X W (.BoolOp .And [a] pos) ba := by
  obtain ⟨t, p, i⟩ := ha
  exact ⟨t, pw_and1 p, i⟩
theorem dw_or1 (ha : DT X W a ba) : DW X W (.BoolOp .Or [a] pos) ba := by
  obtain ⟨t, p, i⟩ := ha
  exact ⟨t, pw_or1 p, i⟩
theorem dw_and (ha : DT X W a ba) (hb : DW X W (.BoolOp .And (b :: rest) pos) bb) : DW X W (.BoolOp .And (a :: b :: rest) pos) (bAnd ba bb) := by
  obtain ⟨ta, pa, ia⟩ := ha
  obtain ⟨tb, pb, ib⟩ := hb
  refine ⟨_, pw_and pa pb, fun κ ρ S σ H m Q rl re h => ?_⟩
  refine ia.seq rl re h fun d S1 v H1 m1 x1 rl1 re1 r1 h1 => ?_
  have r1 : d = v := r1
  subst r1
  cases d with
  | true => exact ib κ ρ S1 σ H1 m1 Q rl1 re1 h1
  | false => exact h1.ok' .refl rl1 rfl
theorem dw_or (ha : DT X W a ba) (hb : DW X W (.BoolOp .Or (b :: rest) pos) bb) : DW X W (.BoolOp .Or (a :: b :: rest) pos) (bOr ba bb) := by
  obtain ⟨ta, pa, ia⟩ := ha
  obtain ⟨tb, pb, ib⟩ := hb
  refine ⟨_, pw_or pa pb, fun κ ρ S σ H m Q rl re h => ?_⟩
  refine ia.seq rl re h fun d S1 v H1 m1 x1 rl1 re1 r1 h1 => ?_
  have r1 : d = v := r1
  subst r1
  cases d with
  | false => exact ib κ ρ S1 σ H1 m1 Q rl1 re1 h1
  | true => exact h1.ok' .refl rl1 rfl
theorem dt_not (ha : DT X W a ba) : DT X W (.UnaryOp .Not a pos) (bNot ba) := by
  obtain ⟨ta, pa, ia⟩ := ha
  refine ⟨_, pt_not pa, fun κ ρ S σ H m Q rl re h => ?_⟩
  refine ia.seq rl re h fun d S1 v H1 m1 x1 rl1 re1 r1 h1 => ?_
  have r1 : d = v := r1
  subst r1
  exact h1.ok' .refl rl1 rfl
/-- a thing's truth -/
def truD (S : Sto) : D → Option Bool
  | .p .none => some false
  | .p (.bool b) => some b
  | .p (.int i) => some (i != 0)
  | .p (.str x) => if x.length ≤ sizeLine then some (((x.length : Nat) : Int) != 0) else none
  | .p (.tuple l) => some (!l.isEmpty)
  | d => (lItems S d).map fun l => !l.isEmpty
def bTru (f : ED) : BD := fun ρ S => (f ρ S).bind fun x S1 => match truD S1 x with
  | some b => .ok b S1
  | none => .st
theorem pairEmpty {α β : Type} {F : α → β → Prop} {l : List α} {r : List β} (q : Paired F l r) : (!l.isEmpty) = (!r.isEmpty) := by
  cases q <;> rfl
theorem mapEmpty {α β : Type} (f : α → β) (l : List α) : (l.map f).isEmpty = l.isEmpty := by cases l <;> rfl
theorem tru_of {d : D} {v : V} {k : Bool} (rl : Rl (KX X κ) m S H) (h : RD (KX X κ) m S H d v) (e : truD S d = some k) : TruV X.K v H k := by
  unfold truD at e
  split at e
  · cases e; rw [h.non]; rfl
  · cases e; rw [h.bl]; rfl
  · cases e; rw [h.int]; rfl
  · split at e
    · rename_i hl
      cases e; rw [h.str]; exact ⟨hl, rfl⟩
    · cases e
  · rename_i l
    cases e
    obtain ⟨p, vs, rfl, h1, h2⟩ := h.tup
    have := pairEmpty h2
    rw [mapEmpty] at this
    exact .inr (.inl ⟨vs, h1, this⟩)
  · simp only [Option.map_eq_some_iff] at e
    obtain ⟨l, e, rfl⟩ := e
    obtain ⟨p, vs, rfl, h1, h2⟩ := h.items rl e
    exact .inl ⟨vs, h1, pairEmpty h2⟩
theorem dt_truth (ha : DE X W a fa) (he : ∀ whole, isTrue a X.env whole = (do let v ← whole; standAt a.pos; holding [v] (truthy v)) := by intro _; rfl) : DT X W a (bTru fa) := by
  obtain ⟨ta, pa, ia⟩ := ha
  refine ⟨_, pt_truth pa he, fun κ ρ S σ H m Q rl re h => ?_⟩
  refine ia.seq rl re h fun d S1 v H1 m1 x1 rl1 re1 r1 h1 => ?_
  split at h1
  · rename_i k e
    exact ⟨k, tru_of rl1 r1 e, h1.ok' .refl rl1 rfl⟩
  · exact h1.elim
/-- bools as values -/
def eAnd (f g : ED) : ED := fun ρ S => (f ρ S).bind fun x S1 => match x with
  | .p (.bool true) => g ρ S1
  | .p (.bool false) => .ok (.bl false) S1
  | _ => .st
def eOr (f g : ED) : ED := fun ρ S => (f ρ S).bind fun x S1 => match x with
  | .p (.bool false) => g ρ S1
  | .p (.bool true) => .ok (.bl true) S1
  | _ => .st
def eNot (f : ED) : ED := fun ρ S => (f ρ S).bind fun x S1 => match x with
  | .p (.bool b) => .ok (.bl (!b)) S1
  | _ => .st
theorem de_one {op} (ha : DE X W a fa) : DE X W (.BoolOp op [a] pos) fa := by
  obtain ⟨t, p, i⟩ := ha
  exact ⟨t, pe_one p, i⟩
theorem de_and (ha : DE X W a fa) (hb : DE X W (.BoolOp .And (b :: rest) pos) fb) : DE X W (.BoolOp .And (a :: b :: rest) pos) (eAnd fa fb) := by
  obtain ⟨ta, pa, ia⟩ := ha
  obtain ⟨tb, pb, ib⟩ := hb
  refine ⟨_, pe_and pa pb, fun κ ρ S σ H m Q rl re h => ?_⟩
  refine ia.seq rl re h fun d S1 v H1 m1 x1 rl1 re1 r1 h1 => ?_
  split at h1
  · exact ⟨true, r1.bl, ib κ ρ S1 σ H1 m1 Q rl1 re1 h1⟩
  · exact ⟨false, r1.bl, h1.ok' .refl rl1 RD.bl_⟩
  · exact h1.elim
theorem de_or (ha : DE X W a fa) (hb : DE X W (.BoolOp .Or (b :: rest) pos) fb) : DE X W (.BoolOp .Or (a :: b :: rest) pos) (eOr fa fb) := by
  obtain ⟨ta, pa, ia⟩ := ha
  obtain ⟨tb, pb, ib⟩ := hb
  refine ⟨_, pe_or pa pb, fun κ ρ S σ H m Q rl re h => ?_⟩
  refine ia.seq rl re h fun d S1 v H1 m1 x1 rl1 re1 r1 h1 => ?_
  split at h1
  · exact ⟨false, r1.bl, ib κ ρ S1 σ H1 m1 Q rl1 re1 h1⟩
  · exact ⟨true, r1.bl, h1.ok' .refl rl1 RD.bl_⟩
  · exact h1.elim
theorem de_not (ha : DE X W a fa) : DE X W (.UnaryOp .Not a pos) (eNot fa) := by
  obtain ⟨ta, pa, ia⟩ := ha
  refine ⟨_, pe_not pa, fun κ ρ S σ H m Q rl re h => ?_⟩
  refine ia.seq rl re h fun d S1 v H1 m1 x1 rl1 re1 r1 h1 => ?_
  split at h1
  · exact ⟨_, r1.bl, h1.ok' .refl rl1 RD.bl_⟩
  · exact h1.elim
def eIf (c : BD) (f g : ED) : ED := fun ρ S => (c ρ S).bind fun x S1 => if x = true then f ρ S1 else g ρ S1
theorem de_if (hc : DT X W c ba) (ha : DE X W a fa) (hb : DE X W b fb) : DE X W (.IfExp c a b pos) (eIf ba fa fb) := by
  obtain ⟨tc, pc, ic⟩ := hc
  obtain ⟨ta, pa, ia⟩ := ha
  obtain ⟨tb, pb, ib⟩ := hb
  refine ⟨_, pe_ifExp pc pa pb, fun κ ρ S σ H m Q rl re h => ?_⟩
  refine ic.seq rl re h fun d S1 v H1 m1 x1 rl1 re1 r1 h1 => ?_
  have r1 : d = v := r1
  subst r1
  cases d with
  | true => exact ia κ ρ S1 σ H1 m1 Q rl1 re1 h1
  | false => exact ib κ ρ S1 σ H1 m1 Q rl1 re1 h1

/-! ### displays -/
variable {es : List Expr} {ga : AD}
def aNil : AD := fun _ S => .ok [] S
def aCons (f : ED) (g : AD) : AD := fun ρ S => (f ρ S).bind fun x S1 => (g ρ S1).bind fun xs S2 => .ok (x :: xs) S2
theorem da_nil : DA X W [] aNil := ⟨_, pa_nil, fun κ ρ S σ H m Q rl re h => h.ok' .refl rl .nil⟩
theorem da_cons (ha : DE X W a fa) (hb : DA X W es ga) (hs : starEach (a :: es) X.env = (false, eval a X.env) :: starEach es X.env := by rfl) : DA X W (a :: es) (aCons fa ga) := by
  obtain ⟨ta, pa, ia⟩ := ha
  obtain ⟨tb, pb, ib⟩ := hb
  refine ⟨_, pa_cons pa pb hs, fun κ ρ S σ H m Q rl re h => ?_⟩
  refine ia.seq rl re h fun d S1 v H1 m1 x1 rl1 re1 r1 h1 => ?_
  refine ib.seq rl1 re1 h1 fun d2 S2 v2 H2 m2 x2 rl2 re2 r2 h2 => ?_
  exact h2.ok' .refl rl2 (.cons (r1.nx x2) r2)
/-- things come to rest -/
def restD : D → Sto → Option (PyData × Sto)
  | .p d, S => some (d, S)
  | .ob n, S => match S[n]? with
    | some (.lst l) => (pAll l).map fun l' => (.list l', S.set n (.fz l'))
    | some (.fz l) => some (.list l, S)
    | _ => none
  | _, _ => none
theorem restD_p (d : PyData) (S : Sto) : restD (.p d) S = some (d, S) := rfl
theorem RD.restD {d : D} {v : V} {d' : PyData} {S' : Sto} (rl : Rl (KX X κ) m S H) (h : RD (KX X κ) m S H d v) (e : restD d S = some (d', S')) : Rl (KX X κ) m S' H ∧ Nx (KX X κ) m S H m S' H ∧ RD (KX X κ) m S' H (.p d') v := by
  unfold DL.restD at e
  split at e
  · cases e; exact ⟨rl, .refl, h⟩
  · rename_i n
    obtain ⟨a, em, rfl⟩ := h
    split at e
    · rename_i l es
      simp only [Option.map_eq_some_iff] at e
      obtain ⟨l', el, e⟩ := e
      cases e
      have := pAll_some el
      subst this
      exact ⟨rl.rest es, Nx.rest es rfl, RD.rest rl em es⟩
    · rename_i l es
      cases e
      refine ⟨rl, .refl, ?_⟩
      obtain ⟨vs, q, h⟩ := rl.obj n a _ em es
      show RP _ _ _ _ _
      rw [RP]
      refine ⟨a, vs, rfl, q, ?_, h⟩
      rintro (h | ⟨k, x, e1, e2, e3⟩)
      · exact (rl.hid a h).1 (List.mem_of_getElem? em)
      · by_cases hk : n = k
        · subst hk
          rw [es] at e2; cases e2; cases e3
        · exact nodup_ne rl.nd e1 em (Ne.symm hk) rfl
    · cases e
  · cases e
def restAll : List D → Sto → Option (List PyData × Sto)
  | [], S => some ([], S)
  | d :: l, S => match restD d S with
    | some (d', S') => (restAll l S').map fun r => (d' :: r.1, r.2)
    | none => none
theorem restAll_p : ∀ (l : List PyData) (S : Sto), restAll (l.map .p) S = some (l, S)
  | [], _ => rfl
  | d :: l, S => by simp [restAll, restD, restAll_p l S]
theorem RDs.restAll : ∀ {ds : List D} {vs : List V} {l : List PyData} {S S' : Sto}, Rl (KX X κ) m S H → RDs (KX X κ) m S H ds vs → restAll ds S = some (l, S') → Rl (KX X κ) m S' H ∧ Nx (KX X κ) m S H m S' H ∧ RPs (KX X κ) H (lv (KX X κ) m S') l vs
  | [], vs, l, S, S', rl, h, e => by
    cases h
    cases e
    exact ⟨rl, .refl, by rw [RPs]⟩
  | d :: ds, vs, l, S, S', rl, h, e => by
    cases h with
    | cons h1 h2 =>
      unfold DL.restAll at e
      split at e
      · rename_i d' S1 e1
        simp only [Option.map_eq_some_iff] at e
        obtain ⟨⟨l', S2⟩, e2, e⟩ := e
        cases e
        obtain ⟨rl1, x1, r1⟩ := h1.restD rl e1
        obtain ⟨rl2, x2, r2⟩ := RDs.restAll rl1 (RDs.nx x1 h2) e2
        refine ⟨rl2, x1.trans x2, ?_⟩
        rw [RPs]
        exact ⟨_, _, rfl, RP.nx x2 r1, r2⟩
      · cases e
def eTup (f : AD) : ED := fun ρ S => (f ρ S).bind fun ds S1 => match restAll ds S1 with
  | some (l, S2) => if l.length ≤ sizeLine then .ok (.tup l) S2 else .st
  | none => .st
def eLst (f : AD) : ED := fun ρ S => (f ρ S).bind fun ds S1 => match restAll ds S1 with
  | some (l, S2) => if l.length ≤ sizeLine then .ok (.lst l) S2 else .st
  | none => .st
/-- a list that will change -/
def eLstO (f : AD) : ED := fun ρ S => (f ρ S).bind fun ds S1 => if ds.length ≤ sizeLine then .ok (.ob S1.length) (S1 ++ [.lst ds]) else .st
theorem de_tup {x1 : Nat} (ha : DA X W es ga) : DE X W (.Tuple es x1 pos) (eTup ga) := by
  obtain ⟨t, p, i⟩ := ha
  refine ⟨_, pe_tup p, fun κ ρ S σ H m Q rl re h => ?_⟩
  refine i.seq rl re h fun d S1 v H1 m1 x1 rl1 re1 r1 h1 => ?_
  split at h1
  · rename_i l S2 e
    split at h1
    · rename_i hl
      obtain ⟨rl2, x2, r2⟩ := RDs.restAll rl1 r1 e
      exact ⟨by rw [← RPs_len r2]; exact hl, fun z hz => h1.ok' (x2.trans (.new rl2 hz)) (rl2.new hz) (newT rl2 hz r2)⟩
    · exact h1.elim
  · exact h1.elim
theorem de_lst (ha : DA X W es ga) : DE X W (.List es pos) (eLst ga) := by
  obtain ⟨t, p, i⟩ := ha
  refine ⟨_, pe_lst p, fun κ ρ S σ H m Q rl re h => ?_⟩
  refine i.seq rl re h fun d S1 v H1 m1 x1 rl1 re1 r1 h1 => ?_
  split at h1
  · rename_i l S2 e
    split at h1
    · rename_i hl
      obtain ⟨rl2, x2, r2⟩ := RDs.restAll rl1 r1 e
      exact ⟨by rw [← RPs_len r2]; exact hl, fun z hz => h1.ok' (x2.trans (.new rl2 hz)) (rl2.new hz) (newL rl2 hz r2)⟩
    · exact h1.elim
  · exact h1.elim
theorem de_lstO (ha : DA X W es ga) : DE X W (.List es pos) (eLstO ga) := by
  obtain ⟨t, p, i⟩ := ha
  refine ⟨_, pe_lst p, fun κ ρ S σ H m Q rl re h => ?_⟩
  refine i.seq rl re h fun d S1 v H1 m1 x1 rl1 re1 r1 h1 => ?_
  split at h1
  · rename_i hl
    exact ⟨by rw [← pairLen r1]; exact hl, fun z hz => h1.ok' (.push rl1 hz) (rl1.pushL hz r1) (RD.push rl1)⟩
  · exact h1.elim

/-! ### items, parts -/
def gIx : D → D → Sto → Rs D := fun x y S => match y with
  | .p (.int i) => (match x with
    | .p (.tuple l) => (match atI l i with | some d => .ok (.p d) S | none => .st)
    | .p (.str z) => if z.length ≤ sizeLine then (match atI z.cps.toList i with | some c => .ok (.str ⟨#[c]⟩) S | none => .st) else .st
    | x => (match lItems S x with | some l => (match atI l i with | some d => .ok d S | none => .st) | none => .st))
  | _ => .st
theorem atI_pair {α β : Type} {F : α → β → Prop} {l : List α} {r : List β} (q : Paired F l r) {i : Int} {x : α} (e : atI l i = some x) : ∃ y, atI r i = some y ∧ F x y := by
  unfold atI at e ⊢
  rw [← pairLen q]
  cases h : ixN l.length i with
  | none => rw [h] at e; cases e
  | some j =>
    rw [h] at e
    exact pairGet q e
theorem atI_map {α β : Type} (f : α → β) (l : List α) (i : Int) : atI (l.map f) i = (atI l i).map f := by
  unfold atI
  rw [List.length_map]
  cases ixN l.length i <;> simp
theorem de_ix (ha : DE X W a fa) (hb : DE X W b fb) (hs : PlainIx b) : DE X W (.Subscript a b pos) (eBin gIx fa fb) := by
  obtain ⟨ta, pa, ia⟩ := ha
  obtain ⟨tb, pb, ib⟩ := hb
  refine ⟨_, pe_ix ix_seq pa pb hs, imp_bin (fun κ x y vx vy m S H σ Q rl rx ry h => ?_) ia ib⟩
  unfold gIx at h
  split at h
  · rename_i i
    split at h
    · rename_i l
      split at h
      · rename_i d e
        obtain ⟨p, vs, rfl, h1, h2⟩ := rx.tup
        have e' : atI (l.map D.p) i = some (.p d) := by rw [atI_map, e]; rfl
        obtain ⟨y, e2, r⟩ := atI_pair h2 e'
        exact .inr (.inl ⟨p, vs, i, y, rfl, ry.int, h1, e2, h.ok' .refl rl r⟩)
      · exact h.elim
    · rename_i z
      split at h
      · rename_i hl
        split at h
        · rename_i c e
          exact .inr (.inr ⟨z, i, c, rx.str, ry.int, hl, e, h.ok' .refl rl RD.str_⟩)
        · exact h.elim
      · exact h.elim
    · split at h
      · rename_i l el
        split at h
        · rename_i d e
          obtain ⟨p, vs, rfl, h1, h2⟩ := rx.items rl el
          obtain ⟨y, e2, r⟩ := atI_pair h2 e
          exact .inl ⟨p, vs, i, y, rfl, ry.int, h1, e2, h.ok' .refl rl r⟩
        · exact h.elim
      · exact h.elim
  · exact h.elim
structure DO (X : Cx) (W : WX) (e : Option Expr) (f : Env → Sto → Rs (Option Int)) : Prop where
  ex : ∃ t : TO, PO X e t ∧ Imp X W (fun _ _ _ _ (a b : Option Int) => a = b) t f
def oNone : Env → Sto → Rs (Option Int) := fun _ S => .ok none S
def oSome (f : ED) : Env → Sto → Rs (Option Int) := fun ρ S => (f ρ S).bind fun x S1 => match x with
  | .p (.int i) => .ok (some i) S1
  | _ => .st
theorem do_none : DO X W none oNone := ⟨_, po_none, fun κ ρ S σ H m Q rl re h => h.ok' .refl rl rfl⟩
theorem do_some (ha : DE X W a fa) : DO X W (some a) (oSome fa) := by
  obtain ⟨ta, pa, ia⟩ := ha
  refine ⟨_, po_some pa, fun κ ρ S σ H m Q rl re h => ?_⟩
  refine ia.seq rl re h fun d S1 v H1 m1 x1 rl1 re1 r1 h1 => ?_
  split at h1
  · exact ⟨_, r1.int, h1.ok' .refl rl1 rfl⟩
  · exact h1.elim
def cutL {α : Type} (xs : List α) (lo hi : Option Int) : List α := (xs.drop (HT.sIx xs.length 0 lo)).take (HT.sIx xs.length xs.length hi - HT.sIx xs.length 0 lo)
def gSl : D → Option Int → Option Int → Sto → Rs D := fun x lo hi S => match x with
  | .p (.tuple l) => .ok (.tup (cutL l lo hi)) S
  | .p (.str z) => if z.length ≤ sizeLine then .ok (.str (cutS z lo hi)) S else .st
  | x => match vList S x with
    | some l => .ok (.lst (cutL l lo hi)) S
    | none => .st
def eSl (fa : ED) (fl fh : Env → Sto → Rs (Option Int)) : ED := fun ρ S => (fa ρ S).bind fun x S1 => (fl ρ S1).bind fun lo S2 => (fh ρ S2).bind fun hi S3 => gSl x lo hi S3
theorem cut_pair {α : Type} {F : α → V → Prop} {l : List α} {r : List V} (q : Paired F l r) (lo hi : Option Int) : Paired F (cutL l lo hi) (cutV r lo hi) := by
  unfold cutL cutV
  rw [← pairLen q]
  exact pairTake (pairDrop q _) _
theorem cut_all {α : Type} {l : List α} {lo hi : Option Int} (h1 : HT.sIx l.length 0 lo = 0) (h2 : HT.sIx l.length l.length hi = l.length) : cutL l lo hi = l := by
  unfold cutL
  rw [h1, h2]
  simp
theorem de_sl {lo hi : Option Expr} {p2 : Pos} {fl fh} (ha : DE X W a fa) (hl : DO X W lo fl) (hh : DO X W hi fh) : DE X W (.Subscript a (.Slice lo hi none p2) pos) (eSl fa fl fh) := by
  obtain ⟨ta, pa, ia⟩ := ha
  obtain ⟨tl, pl, il⟩ := hl
  obtain ⟨th, ph, ih⟩ := hh
  refine ⟨_, pe_slice (SlR.or sl_list (SlR.or sl_tupA sl_str)) pa pl ph, fun κ ρ S σ H m Q rl re h => ?_⟩
  refine ia.seq rl re h fun d S1 v H1 m1 x1 rl1 re1 r1 h1 => ?_
  refine il.seq rl1 re1 h1 fun lo' S2 lo2 H2 m2 x2 rl2 re2 e1 h2 => ?_
  have e1 : lo' = lo2 := e1
  subst e1
  refine ih.seq rl2 re2 h2 fun hi' S3 hi2 H3 m3 x3 rl3 re3 e2 h3 => ?_
  have e2 : hi' = hi2 := e2
  subst e2
  have r3 := (r1.nx x2).nx x3
  unfold gSl at h3
  split at h3
  · rename_i l
    obtain ⟨p, vs, rfl, q1, q2⟩ := r3.tup'
    have q2' := RPs_iff.mp q2
    refine .inr (.inl ⟨p, vs, rfl, .of q1, fun z => ?_, fun _ y hy => ?_⟩)
    · rw [← RPs_len q2] at z
      rw [cut_all z.1 z.2] at h3
      exact h3.ok' .refl rl3 (tup_of q1 q2)
    · exact h3.ok' (.new rl3 hy) (rl3.new hy) (newT rl3 hy (RPs_iff.mpr (cut_pair q2' _ _)))
  · split at h3
    · rename_i z hl
      exact .inr (.inr ⟨z, r3.str, hl, h3.ok' .refl rl3 RD.str_⟩)
    · exact h3.elim
  · split at h3
    · rename_i l e
      obtain ⟨p, vs, rfl, q1, q2⟩ := r3.vlist rl3 e
      exact .inl ⟨p, vs, rfl, .of q1, fun y hy => h3.ok' (.new rl3 hy) (rl3.new hy) (newL rl3 hy (RPs_iff.mpr (cut_pair (RPs_iff.mp q2) _ _)))⟩
    · exact h3.elim
end
end DL

namespace DL
open PySem PySem.Spec PyProof.Rows L2
section
variable {X : Cx} {W : WX} {m m1 : List Addr} {S S1 : Sto} {H H1 : Hp} {σ : St} {ρ : Env} {κ : Addr → Prop}
variable {a b c e : Expr} {pos : Pos} {fa fb fe : ED} {ba : BD} {s1 : Stmt} {ss ss' : List Stmt} {f1 f2 : SD}
/-! ### statements -/
def sSeq (f g : SD) : SD := fun ρ S => match f ρ S with
  | .nx ρ1 S1 => g ρ1 S1
  | o => o
def sNil : SD := fun ρ S => .nx ρ S
theorem dss_nil : DSs X W [] sNil := ⟨_, pss_nil, fun κ ρ S σ H m Dn rl re h => h σ H m .refl rl re⟩
theorem dss_cons (h1 : DS X W s1 f1) (h2 : DSs X W ss f2) : DSs X W (s1 :: ss) (sSeq f1 f2) := by
  obtain ⟨t1, p1, i1⟩ := h1
  obtain ⟨t2, p2, i2⟩ := h2
  refine ⟨_, pss_cons p1 p2, fun κ ρ S σ H m Dn rl re h => ?_⟩
  refine i1 κ ρ S σ H m _ rl re ?_
  unfold sSeq at h
  split at h
  · rename_i ρ1 S1 e
    rw [e]
    exact fun σ' H' m' x rl' re' => i2 κ ρ1 S1 σ' H' m' Dn rl' re' (PostS.nx x h)
  · rename_i hn
    cases e : f1 ρ S with
    | nx ρ1 S1 => exact absurd e (hn ρ1 S1)
    | st => rw [e] at h; exact h
    | bk ρ1 S1 => rw [e] at h; exact h
    | ct ρ1 S1 => rw [e] at h; exact h
    | rt d S1 => rw [e] at h; exact h
    | ex x ρ1 S1 => rw [e] at h; exact h
theorem dss_one (h1 : DS X W s1 f1) : DSs X W [s1] f1 := by
  obtain ⟨t1, p1, i1⟩ := h1
  exact ⟨_, pss_one p1, i1⟩
def sBrk : SD := fun ρ S => .bk ρ S
def sCnt : SD := fun ρ S => .ct ρ S
theorem ds_pass : DS X W (.Pass pos) sNil := ⟨_, ps_pass, fun κ ρ S σ H m Dn rl re h => h σ H m .refl rl re⟩
theorem ds_break : DS X W (.Break pos) sBrk := ⟨_, ps_break, fun κ ρ S σ H m Dn rl re h => h σ H m .refl rl re⟩
theorem ds_continue : DS X W (.Continue pos) sCnt := ⟨_, ps_continue, fun κ ρ S σ H m Dn rl re h => h σ H m .refl rl re⟩
def sExpr (f : ED) : SD := fun ρ S => liftS ρ (f ρ S) fun _ S1 => .nx ρ S1
theorem ds_expr (he : DE X W e fe) (hs : swapsWith e none pos.line X.env = pure false := by rfl) : DS X W (.Expr e pos) (sExpr fe) := by
  obtain ⟨t, p, i⟩ := he
  refine ⟨_, ps_expr p hs, fun κ ρ S σ H m Dn rl re h => ?_⟩
  exact i.seqS rl re h fun d S1 v H1 m1 x1 rl1 re1 r1 h1 => h1 σ H1 m1 .refl rl1 re1
/-- what is handed back, as it is; at rest -/
def sRet (f : ED) : SD := fun ρ S => liftS ρ (f ρ S) fun d S1 => .rt d S1
def sRetR (f : ED) : SD := fun ρ S => liftS ρ (f ρ S) fun d S1 => match restD d S1 with
  | some (p, S2) => .rt (.p p) S2
  | none => .st
def sRetN : SD := fun _ S => .rt .non S
theorem ds_ret (he : DE X W e fe) : DS X W (.Return (some e) pos) (sRet fe) := by
  obtain ⟨t, p, i⟩ := he
  refine ⟨_, ps_ret p, fun κ ρ S σ H m Dn rl re h => ?_⟩
  exact i.seqS rl re h fun d S1 v H1 m1 x1 rl1 re1 r1 h1 => h1 v H1 m1 .refl rl1 r1
theorem ds_retR (he : DE X W e fe) : DS X W (.Return (some e) pos) (sRetR fe) := by
  obtain ⟨t, p, i⟩ := he
  refine ⟨_, ps_ret p, fun κ ρ S σ H m Dn rl re h => ?_⟩
  refine i.seqS rl re h fun d S1 v H1 m1 x1 rl1 re1 r1 h1 => ?_
  split at h1
  · rename_i q S2 e
    obtain ⟨rl2, x2, r2⟩ := r1.restD rl1 e
    exact h1 v H1 m1 x2 rl2 r2
  · exact h1.elim
theorem ds_retN : DS X W (.Return none pos) sRetN := ⟨_, ps_retN, fun κ ρ S σ H m Dn rl re h => h .non H m .refl rl RD.non_⟩
def sIf (c : BD) (f g : SD) : SD := fun ρ S => liftS ρ (c ρ S) fun b S1 => if b = true then f ρ S1 else g ρ S1
theorem ds_if (hc : DT X W c ba) (h1 : DSs X W ss f1) (h2 : DSs X W ss' f2) : DS X W (.If c ss ss' pos) (sIf ba f1 f2) := by
  obtain ⟨tc, pc, ic⟩ := hc
  obtain ⟨t1, p1, i1⟩ := h1
  obtain ⟨t2, p2, i2⟩ := h2
  refine ⟨_, ps_if pc p1 p2, fun κ ρ S σ H m Dn rl re h => ?_⟩
  refine ic.seqS rl re h fun d S1 v H1 m1 x1 rl1 re1 r1 h1 => ?_
  have r1 : d = v := r1
  subst r1
  cases d with
  | true => exact i1 κ ρ S1 σ H1 m1 Dn rl1 re1 h1
  | false => exact i2 κ ρ S1 σ H1 m1 Dn rl1 re1 h1
/-! ### targets -/
def PostG (X : Cx) (κ : Addr → Prop) (m : List Addr) (S : Sto) (H : Hp) (r : Rs Env) (Q : St → Hp → Prop) : Prop := match r with
  | .ok ρ S' => ∀ σ' H' m', Nx (KX X κ) m S H m' S' H' → Rl (KX X κ) m' S' H' → RE (KX X κ) m' S' H' ρ σ' → Q σ' H'
  | _ => False
abbrev GD := D → Env → Sto → Rs Env
structure DG (X : Cx) (W : WX) (tg : Expr) (g : GD) : Prop where
  ex : ∃ t : TG, PG X tg t ∧ ∀ κ d v ρ S σ H m Q, Rl (KX X κ) m S H → RE (KX X κ) m S H ρ σ → RD (KX X κ) m S H d v → PostG X κ m S H (g d ρ S) Q → t v σ H Q
abbrev GDs := List D → Env → Sto → Rs Env
structure DGs (X : Cx) (W : WX) (tgs : List Expr) (g : GDs) : Prop where
  ex : ∃ t : TGs, PGs X tgs t ∧ ∀ κ ds vs ρ S σ H m Q, Rl (KX X κ) m S H → RE (KX X κ) m S H ρ σ → RDs (KX X κ) m S H ds vs → PostG X κ m S H (g ds ρ S) Q → t vs σ H Q
theorem PostG.nx {r : Rs Env} {Q : St → Hp → Prop} (x : Nx (KX X κ) m S H m1 S1 H1) (h : PostG X κ m S H r Q) : PostG X κ m1 S1 H1 r Q := by
  cases r with
  | st => exact h
  | ok d S' => exact fun v H' m' y rl r => h v H' m' (x.trans y) rl r
  | ex e S' => exact h
def gNm (i : Nat) : GD := fun d ρ S => .ok (ρ.set i (some d)) S
theorem dg_name {i : Nat} {x : Str} (hN : X.N.Nodup) (hi : X.N[i]? = some x) (hx : Loc X.env.scope x) (hf : X.fn x = true ∨ X.env.scope.names.lookup x = some .local := by first | exact .inl rfl | exact .inr rfl | assumption) : DG X W (.Name x pos) (gNm i) :=
  ⟨_, pg_name hN hi hx hf, fun κ d v ρ S σ H m Q rl re r h => h _ H m .refl rl (pairSet re fun d' e => ⟨v, rfl, by cases e; exact r⟩)⟩
def gsNil : GDs := fun ds ρ S => match ds with
  | [] => .ok ρ S
  | _ => .st
def gsCons (g : GD) (h : GDs) : GDs := fun ds ρ S => match ds with
  | d :: ds => (match g d ρ S with | .ok ρ1 S1 => h ds ρ1 S1 | _ => .st)
  | _ => .st
theorem dgs_nil : DGs X W [] gsNil := by
  refine ⟨_, pgs_nil, fun κ ds vs ρ S σ H m Q rl re r h => ?_⟩
  cases r with
  | nil => exact ⟨rfl, h σ H m .refl rl re⟩
  | cons _ _ => exact h.elim
theorem dgs_cons {es : List Expr} {g : GD} {gs : GDs} (h1 : DG X W e g) (h2 : DGs X W es gs) (hs : (assignEach (e :: es) X.env).map (·.2) = assign e X.env :: (assignEach es X.env).map (·.2) := by rfl) : DGs X W (e :: es) (gsCons g gs) := by
  obtain ⟨t1, p1, i1⟩ := h1
  obtain ⟨t2, p2, i2⟩ := h2
  refine ⟨_, pgs_cons p1 p2 hs, fun κ ds vs ρ S σ H m Q rl re r h => ?_⟩
  cases r with
  | nil => exact h.elim
  | cons q1 q2 =>
    rename_i d v ds vs
    refine ⟨v, vs, rfl, i1 κ d v ρ S σ H m _ rl re q1 ?_⟩
    unfold gsCons at h
    cases e1 : g d ρ S with
    | st => simp only [e1] at h; exact h.elim
    | ex _ _ => simp only [e1] at h; exact h.elim
    | ok ρ1 S1 =>
      simp only [e1] at h
      exact fun σ' H' m' x rl' re' => i2 κ ds vs ρ1 S1 σ' H' m' Q rl' re' (RDs.nx x q2) (PostG.nx x h)
def gTupD (n : Nat) (gs : GDs) : GD := fun d ρ S => match d with
  | .p (.tuple l) => if l.length = n then gs (l.map .p) ρ S else .st
  | _ => .st
theorem dg_tup {es : List Expr} {k n : Nat} {gs : GDs} (hc : X.calm = true) (h : DGs X W es gs) (hn : (assignEach es X.env).length = n := by rfl) (hst : (assignEach es X.env).findIdx? (·.1) = none := by rfl) : DG X W (.Tuple es k pos) (gTupD n gs) := by
  obtain ⟨t, p, i⟩ := h
  refine ⟨_, pg_tup hc p hn hst, fun κ d v ρ S σ H m Q rl re r h => ?_⟩
  unfold gTupD at h
  split at h
  · split at h
    · rename_i l hl
      obtain ⟨q, vs, rfl, h1, h2⟩ := r.tup
      exact ⟨q, vs, rfl, h1, by rw [← pairLen h2, List.length_map]; exact hl, i κ _ vs ρ S σ H m Q rl re h2 h⟩
    · exact h.elim
  · exact h.elim
/-- xs[i] = v of a list that changes -/
def setL (d : D) (o i : D) (S : Sto) : Option Sto := match o with
  | .ob n => (match i with
    | .p (.int i) => (match S[n]? with
      | some (.lst l) => (match ixN l.length i with
        | some j => some (S.set n (.lst (l.set j d)))
        | none => none)
      | _ => none)
    | _ => none)
  | _ => none
def okE (ρ : Env) (o : Option Sto) : Rs Env := match o with
  | some S => .ok ρ S
  | none => .st
def gSetL (fo fi : ED) : GD := fun d ρ S => (fo ρ S).bind fun o S1 => (fi ρ S1).bind fun i S2 => okE ρ (setL d o i S2)
theorem Imp.to {α β : Type} {Ra : Kh → List Addr → Sto → Hp → α → β → Prop} {t : St → Hp → (β → Hp → Prop) → Prop} {f : Env → Sto → Rs α} (i : Imp X W Ra t f) (rl : Rl (KX X κ) m S H) (re : RE (KX X κ) m S H ρ σ) {d : α} {S1 : Sto} (e : f ρ S = .ok d S1) {C : β → Hp → Prop}
    (h : ∀ v H1 m1, Nx (KX X κ) m S H m1 S1 H1 → Rl (KX X κ) m1 S1 H1 → RE (KX X κ) m1 S1 H1 ρ σ → Ra (KX X κ) m1 S1 H1 d v → C v H1) : t σ H C := by
  refine i κ ρ S σ H m C rl re ?_
  rw [e]
  exact fun v H1 m1 x rl1 r => h v H1 m1 x rl1 (re.nx x) r
theorem dg_setL {o i : Expr} {fo fi : ED} (ho : DE X W o fo) (hi : DE X W i fi)
    (ha : ∀ v, assign (.Subscript o i pos) X.env v = (do
      let ov ← holding [v] (eval o X.env)
      let iv ← holding [v, ov] (eval i X.env)
      standAt pos
      holding [v, ov, iv] (setItem ov iv v)
      release [v, ov, iv] []) := by intro _; rfl) : DG X W (.Subscript o i pos) (gSetL fo fi) := by
  obtain ⟨t1, p1, i1⟩ := ho
  obtain ⟨t2, p2, i2⟩ := hi
  refine ⟨_, pg_sub p1 p2 set_list ha, fun κ d v ρ S σ H m Q rl re r h => ?_⟩
  unfold gSetL at h
  cases e1 : fo ρ S with
  | st => rw [e1] at h; exact h.elim
  | ex _ _ => rw [e1] at h; exact h.elim
  | ok o' S1 =>
    rw [e1] at h
    refine i1.to rl re e1 fun v1 H1 m1 x1 rl1 re1 r1 => ?_
    have h1 : PostG X κ m1 S1 H1 ((fi ρ S1).bind fun i S2 => okE ρ (setL d o' i S2)) Q := PostG.nx x1 h
    cases e2 : fi ρ S1 with
    | st => rw [e2] at h1; exact h1.elim
    | ex _ _ => rw [e2] at h1; exact h1.elim
    | ok i' S2 =>
      rw [e2] at h1
      refine i2.to rl1 re1 e2 fun v2 H2 m2 x2 rl2 re2 r2 => ?_
      have h2 : PostG X κ m2 S2 H2 (okE ρ (setL d o' i' S2)) Q := PostG.nx x2 h1
      cases e3 : setL d o' i' S2 with
      | none => rw [e3] at h2; exact h2.elim
      | some S3 =>
        rw [e3] at h2
        unfold setL at e3
        split at e3
        · rename_i n
          split at e3
          · rename_i k
            split at e3
            · rename_i l es
              split at e3
              · rename_i j ej
                cases e3
                obtain ⟨p, em, rfl⟩ := r1.nx x2
                obtain ⟨vs, q1, q2⟩ := rl2.obj n p _ em es
                have rd := (r.nx x1).nx x2
                have q3 := pairSet q2 (i := j) rd
                exact ⟨p, vs, k, j, rfl, r2.int, q1, by rw [← pairLen q2]; exact ej, h2 σ _ m2 (Nx.put rl2 em es rfl) (rl2.putL em es q3) (re2.nx (Nx.put rl2 em es rfl))⟩
              · cases e3
            · cases e3
          · cases e3
        · cases e3
def sAsg (f : ED) (g : GD) : SD := fun ρ S => liftS ρ (f ρ S) fun d S1 => match g d ρ S1 with
  | .ok ρ1 S2 => .nx ρ1 S2
  | _ => .st
theorem imp_asg {te : TE} {t : TG} {g : GD} (ie : Imp X W RD te fe) (ig : ∀ κ d v ρ S σ H m Q, Rl (KX X κ) m S H → RE (KX X κ) m S H ρ σ → RD (KX X κ) m S H d v → PostG X κ m S H (g d ρ S) Q → t v σ H Q) : ImpS X W (tAsg te t) (sAsg fe g) := by
  intro κ ρ S σ H m Dn rl re h
  refine ie.seqS rl re h fun d S1 v H1 m1 x1 rl1 re1 r1 h1 => ?_
  refine ig κ d v ρ S1 σ H1 m1 _ rl1 re1 r1 ?_
  split at h1
  · rename_i e
    rw [e]
    exact h1
  · exact h1.elim
theorem ds_asg {tg : Expr} {g : GD} (he : DE X W e fe) (hg : DG X W tg g) (hs : swapsWithSole [tg] e pos.line X.env = pure false := by rfl) (hw : swappedStores [tg] e X.env = pure none := by rfl)
    (h1 : (assignEach [tg] X.env).map (·.2) = [assign tg X.env] := by rfl) : DS X W (.Assign [tg] e pos) (sAsg fe g) := by
  obtain ⟨te, pe, ie⟩ := he
  obtain ⟨t, pg, ig⟩ := hg
  exact ⟨_, ps_asg pe pg hs hw h1, imp_asg ie ig⟩
/-- name = value -/
def sSet (i : Nat) (f : ED) : SD := fun ρ S => liftS ρ (f ρ S) fun d S1 => .nx (ρ.set i (some d)) S1
theorem ds_set {i : Nat} {x : Str} {pos' : Pos} (hN : X.N.Nodup) (hi : X.N[i]? = some x) (hx : Loc X.env.scope x) (he : DE X W e fe) (hs : swapsWith e (some (.Name x pos')) pos.line X.env = pure false := by rfl)
    (hf : X.fn x = true ∨ X.env.scope.names.lookup x = some .local := by first | exact .inl rfl | exact .inr rfl | assumption) : DS X W (.Assign [.Name x pos'] e pos) (sSet i fe) := by
  obtain ⟨te, pe, ie⟩ := he
  refine ⟨_, ps_set hN hi hx pe hs hf, fun κ ρ S σ H m Dn rl re h => ?_⟩
  refine ie.seqS rl re h fun d S1 v H1 m1 x1 rl1 re1 r1 h1 => ?_
  exact h1 _ H1 m1 .refl rl1 (pairSet re1 fun d' e => ⟨v, rfl, by cases e; exact r1⟩)
/-- name op= e -/
def sAug (i : Nat) (f : ED) (g : D → D → Sto → Rs D) : SD := fun ρ S => match ρ[i]? with
  | some (some x) => liftS ρ (f ρ S) fun y S1 => liftS ρ (g x y S1) fun z S2 => .nx (ρ.set i (some z)) S2
  | _ => .st
theorem ds_aug {i : Nat} {x : Str} {op : Operator} {pos' : Pos} {g : D → D → Sto → Rs D} (hN : X.N.Nodup) (hi : X.N[i]? = some x) (hx : Loc X.env.scope x) (he : DE X W e fe) (ho : OpD X W (inplaceOp op) g)
    (hf : X.fn x = true ∨ X.env.scope.names.lookup x = some .local := by first | exact .inl rfl | exact .inr rfl | assumption) : DS X W (.AugAssign (.Name x pos') op e pos) (sAug i fe g) := by
  obtain ⟨te, pe, ie⟩ := he
  obtain ⟨r, o, hr⟩ := ho
  refine ⟨_, ps_aug hN hi hx pe o hf, fun κ ρ S σ H m Dn rl re h => ?_⟩
  unfold sAug at h
  split at h
  · rename_i d0 e0
    obtain ⟨v0, e1, q⟩ := pairGet re e0
    obtain ⟨u, rfl, r0⟩ := q d0 rfl
    refine ⟨u, e1, ?_⟩
    refine ie.seqS rl re h fun d S1 v H1 m1 x1 rl1 re1 r1 h1 => ?_
    refine hr κ d0 d u v m1 S1 H1 σ _ rl1 (r0.nx x1) r1 ?_
    cases e2 : g d0 d S1 with
    | st => rw [e2] at h1; exact h1
    | ex y S2 => rw [e2] at h1; exact fun H' m' c dd x rl' rx => h1 σ H' m' c dd x rl' (re1.nx x) rx
    | ok z S2 =>
      rw [e2] at h1
      exact fun v' H' m' x rl' rz => h1 _ H' m' x rl' (pairSet (re1.nx x) fun d' e => ⟨v', rfl, by cases e; exact rz⟩)
  · exact h.elim
def gAddI : D → D → Sto → Rs D := fun x y S => match x, y with
  | .p (.int i), .p (.int j) => .ok (.int (i + j)) S
  | .p (.str a), .p (.str b) => if a.length + b.length ≤ sizeLine then .ok (.str (a ++ b)) S else .st
  | _, _ => .st
theorem oi_add : OpD X W (inplaceOp .Add) gAddI := by
  refine ⟨_, OpR.or iop_add iop_add_str, fun κ x y vx vy m S H σ Q rl rx ry h => ?_⟩
  unfold gAddI at h
  split at h
  · exact .inl ⟨_, _, rx.int, ry.int, h.ok' .refl rl RD.int_⟩
  · split at h
    · rename_i hl
      exact .inr ⟨_, _, rx.str, ry.str, hl, h.ok' .refl rl RD.str_⟩
    · exact h.elim
  · exact h.elim
theorem oi_sub : OpD X W (inplaceOp .Sub) gSub := by
  refine ⟨_, iop_sub, fun κ x y vx vy m S H σ Q rl rx ry h => ?_⟩
  unfold gSub gInt at h
  split at h
  · rw [if_pos rfl] at h
    exact ⟨_, _, rx.int, ry.int, h.ok' .refl rl RD.int_⟩
  · exact h.elim

/-! ### what is walked -/
structure ItOk (K : Kh) (m : List Addr) (S : Sto) (H : Hp) (J : It) (ds : List D) (chk : Sto → Prop) : Prop where
  here : chk S
  go : ∀ (h' : Addr → Prop) (m' : List Addr) (S' : Sto) (H' : Hp) (i : Nat) (d : D), (∀ a, h' a → K.h a ∨ H a = none) → Nx K m S H m' S' H' → Rl ⟨K.K, h'⟩ m' S' H' → chk S' → ds[i]? = some d →
    J.go i H' ∧ ∀ x H'', J.yld i H' x H'' → Nx ⟨K.K, h'⟩ m' S' H' m' S' H'' ∧ Rl ⟨K.K, h'⟩ m' S' H'' ∧ RD ⟨K.K, h'⟩ m' S' H'' d x
  stop : ∀ (h' : Addr → Prop) (m' : List Addr) (S' : Sto) (H' : Hp) (i : Nat), (∀ a, h' a → K.h a ∨ H a = none) → Nx K m S H m' S' H' → Rl ⟨K.K, h'⟩ m' S' H' → chk S' → ds.length ≤ i → J.stop i H'
abbrev IDt := List D × (Sto → Prop)
structure DI (X : Cx) (W : WX) (tg iter : Expr) (f : Env → Sto → Rs IDt) : Prop where
  ex : ∃ wi : TI, PI X tg iter wi ∧ Imp X W (fun K m S H (d : IDt) (J : It) => ItOk K m S H J d.1 d.2) wi f
/-- over a list or a tuple -/
def chkOf (d : D) (l : List D) : Sto → Prop := match d with
  | .ob n => fun S => lItems S (.ob n) = some l
  | _ => fun _ => True
def iLst (f : ED) : Env → Sto → Rs IDt := fun ρ S => (f ρ S).bind fun d S1 => match lItems S1 d with
  | some l => .ok (l, chkOf d l) S1
  | none => .st
def iTpl (f : ED) : Env → Sto → Rs IDt := fun ρ S => (f ρ S).bind fun d S1 => match d with
  | .p (.tuple l) => .ok (l.map .p, fun _ => True) S1
  | _ => .st
theorem di_lst {tg : Expr} (he : DE X W e fe) : DI X W tg e (iLst fe) := by
  obtain ⟨t, p, i⟩ := he
  refine ⟨_, pi_list p, fun κ ρ S σ H m Q rl re h => ?_⟩
  refine i.seq rl re h fun d S1 v H1 m1 x1 rl1 re1 r1 h1 => ?_
  split at h1
  · rename_i l el
    obtain ⟨q, vs, rfl, q1, q2⟩ := r1.items rl1 el
    have key : ∀ (h' : Addr → Prop) (m' : List Addr) (S' : Sto) (H' : Hp), (∀ a, h' a → κ a ∨ H1 a = none) → Nx (KX X κ) m1 S1 H1 m' S' H' → Rl (KX X h') m' S' H' → chkOf d l S' → ∃ ws, SqL X.K H' q ws ∧ RDs (KX X h') m' S' H' l ws := by
      intro h' m' S' H' hs x rl' ck
      have el' : lItems S' d = some l := by
        cases d with
        | p d =>
          cases d <;> first | (exact el) | (exact absurd el (by simp [lItems]))
        | ob n => exact ck
        | scr ns => exact el
        | xc _ _ _ => exact absurd el (by simp [lItems])
      obtain ⟨q', vs', e', q1', q2'⟩ := RD.items rl' (RD.nxh x hs r1) el'
      cases e'
      exact ⟨vs', q1', q2'⟩
    refine ⟨q, rfl, ⟨vs, q1⟩, h1.ok' .refl rl1 ⟨?_, fun h' m' S' H' i d' hs x rl' ck e => ?_, fun h' m' S' H' i hs x rl' ck hi => ?_⟩⟩
    · show chkOf d l S1
      unfold chkOf
      split
      · exact el
      · trivial
    · obtain ⟨ws, s1, s2⟩ := key h' m' S' H' hs x rl' ck
      obtain ⟨y, ey, ry⟩ := pairGet s2 e
      refine ⟨⟨ws, y, s1, ey⟩, fun z H'' hy => ?_⟩
      obtain ⟨rfl, hy⟩ := hy
      have := hy ws s1
      rw [ey] at this
      cases this
      exact ⟨.refl, rl', ry⟩
    · obtain ⟨ws, s1, s2⟩ := key h' m' S' H' hs x rl' ck
      exact ⟨ws, s1, by rw [← pairLen s2]; exact hi⟩
  · exact h1.elim
theorem di_tup {tg : Expr} (he : DE X W e fe) : DI X W tg e (iTpl fe) := by
  obtain ⟨t, p, i⟩ := he
  refine ⟨_, pi_tup p, fun κ ρ S σ H m Q rl re h => ?_⟩
  refine i.seq rl re h fun d S1 v H1 m1 x1 rl1 re1 r1 h1 => ?_
  split at h1
  · rename_i l
    obtain ⟨q, vs, rfl, q1, q2⟩ := r1.tup'
    have q2 := RDs_p.mpr q2
    refine ⟨q, rfl, ⟨vs, .of q1⟩, h1.ok' .refl rl1 ⟨trivial, fun h' m' S' H' i d' hs x rl' ck e => ?_, fun h' m' S' H' i hs x rl' ck hi => ?_⟩⟩
    · obtain ⟨y, ey, ry⟩ := pairGet (RDs.nxh x hs q2) e
      refine ⟨⟨vs, y, .of (x.tup _ _ q1), ey⟩, fun z H'' hy => ?_⟩
      obtain ⟨rfl, hy⟩ := hy
      have := hy vs (.of (x.tup _ _ q1))
      rw [ey] at this
      cases this
      exact ⟨.refl, rl', ry⟩
    · exact ⟨vs, .of (x.tup _ _ q1), by rw [← pairLen q2]; exact hi⟩
  · exact h1.elim
/-- range -/
def rngL (lo : Int) (n : Nat) : List D := (List.range n).map fun (k : Nat) => D.int (lo + (k : Int))
noncomputable def big62 (i : Int) : Bool := @decide (-(2 ^ 62) ≤ i ∧ i < 2 ^ 62) (Classical.propDecidable _)
theorem big62_iff {i : Int} (h : big62 i = true) : -(2 ^ 62) ≤ i ∧ i < 2 ^ 62 := @of_decide_eq_true _ (Classical.propDecidable _) h
noncomputable def iRgA (f : AD) : Env → Sto → Rs IDt := fun ρ S => (f ρ S).bind fun ds S1 => match ds with
  | [.p (.int j)] => if big62 j = true then .ok (rngL 0 j.toNat, fun _ => True) S1 else .st
  | _ => .st
noncomputable def iRgB (f : AD) : Env → Sto → Rs IDt := fun ρ S => (f ρ S).bind fun ds S1 => match ds with
  | [.p (.int i), .p (.int j)] => if big62 i = true ∧ big62 j = true then .ok (rngL i (j - i).toNat, fun _ => True) S1 else .st
  | _ => .st
theorem itr_ok {lo : Int} {n : Nat} : ItOk (KX X κ) m S H (Itr lo n) (rngL lo n) (fun _ => True) := by
  refine ⟨trivial, fun h' m' S' H' i d' hs x rl' ck e => ?_, fun h' m' S' H' i hs x rl' ck hi => ?_⟩
  · unfold rngL at e
    rw [List.getElem?_map] at e
    have hi : i < n := by
      cases h : (List.range n)[i]? with
      | none => rw [h] at e; cases e
      | some k =>
        have := (List.getElem?_eq_some_iff.mp h).1
        simpa using this
    rw [List.getElem?_range hi] at e
    cases e
    refine ⟨hi, fun z H'' hy => ?_⟩
    obtain ⟨rfl, rfl⟩ := hy
    exact ⟨.refl, rl', RD.int_⟩
  · unfold rngL at hi
    rw [List.length_map, List.length_range] at hi
    exact hi
theorem RDs1 {d : D} {vs : List V} (h : RDs (KX X κ) m S H [d] vs) : ∃ v, vs = [v] ∧ RD (KX X κ) m S H d v := by
  cases h with
  | cons h1 h2 => cases h2; exact ⟨_, rfl, h1⟩
theorem RDs2 {d d' : D} {vs : List V} (h : RDs (KX X κ) m S H [d, d'] vs) : ∃ v v', vs = [v, v'] ∧ RD (KX X κ) m S H d v ∧ RD (KX X κ) m S H d' v' := by
  cases h with
  | cons h1 h2 =>
    obtain ⟨v', rfl, h3⟩ := RDs1 h2
    exact ⟨_, _, rfl, h1, h3⟩
theorem di_range1 {tg : Expr} {p : Pos} {ga : AD} (hg : Gl X "range") (hm : X.mg "range" = none) (ha : DA X W [a] ga) (hs : starEach [a] X.env = [(false, eval a X.env)] := by rfl) : DI X W tg (.Call (.Name "range" p) [a] [] pos) (iRgA ga) := by
  obtain ⟨t, q, i⟩ := ha
  refine ⟨_, pi_range1 hg hm q hs, fun κ ρ S σ H m Q rl re h => ?_⟩
  refine i.seq rl re h fun d S1 v H1 m1 x1 rl1 re1 r1 h1 => ?_
  split at h1
  · split at h1
    · rename_i j hj
      obtain ⟨u, rfl, q1⟩ := RDs1 r1
      have hj := big62_iff hj
      rw [q1.int]
      exact ⟨j, rfl, hj.1, hj.2, h1.ok' .refl rl1 itr_ok⟩
    · exact h1.elim
  · exact h1.elim
theorem di_range2 {tg : Expr} {p : Pos} {ga : AD} (hg : Gl X "range") (hm : X.mg "range" = none) (ha : DA X W [a, b] ga) (hs : starEach [a, b] X.env = [(false, eval a X.env), (false, eval b X.env)] := by rfl) (hs2 : starEach [b] X.env = [(false, eval b X.env)] := by rfl) :
    DI X W tg (.Call (.Name "range" p) [a, b] [] pos) (iRgB ga) := by
  obtain ⟨t, q, i⟩ := ha
  refine ⟨_, pi_range2 hg hm q hs hs2, fun κ ρ S σ H m Q rl re h => ?_⟩
  refine i.seq rl re h fun d S1 v H1 m1 x1 rl1 re1 r1 h1 => ?_
  split at h1
  · split at h1
    · rename_i i j hj
      obtain ⟨u, u', rfl, q1, q2⟩ := RDs2 r1
      have h1' := big62_iff hj.1
      have h2' := big62_iff hj.2
      rw [q1.int, q2.int]
      exact ⟨i, j, rfl, ⟨h1'.1, h1'.2, h2'.1, h2'.2⟩, h1.ok' .refl rl1 itr_ok⟩
    · exact h1.elim
  · exact h1.elim
/-! ### for -/
open Classical in
noncomputable def forL (g : GD) (body : SD) (chk : Sto → Prop) : List D → Env → Sto → Out
  | [], ρ, S => .nx ρ S
  | d :: ds, ρ, S => match g d ρ S with
    | .ok ρ1 S1 => (match body ρ1 S1 with
      | .nx ρ2 S2 => if chk S2 then forL g body chk ds ρ2 S2 else .st
      | .ct ρ2 S2 => if chk S2 then forL g body chk ds ρ2 S2 else .st
      | .bk ρ2 S2 => .nx ρ2 S2
      | o => o)
    | _ => .st
noncomputable def sFor (f : Env → Sto → Rs IDt) (g : GD) (body : SD) : SD := fun ρ S => liftS ρ (f ρ S) fun d S1 => forL g body d.2 d.1 ρ S1
theorem imp_for {wi : TI} {t : TG} {tb : TS} {f : Env → Sto → Rs IDt} {g : GD} {fb : SD} (ii : Imp X W (fun K m S H (d : IDt) (J : It) => ItOk K m S H J d.1 d.2) wi f)
    (ig : ∀ κ d v ρ S σ H m Q, Rl (KX X κ) m S H → RE (KX X κ) m S H ρ σ → RD (KX X κ) m S H d v → PostG X κ m S H (g d ρ S) Q → t v σ H Q) (ib : ImpS X W tb fb) : ImpS X W (tFor wi t tb) (sFor f g fb) := by
  intro κ ρ S σ H m Dn rl re h
  refine ii.seqS rl re h fun d S1 J H1 m1 x1 rl1 re1 ok h1 => ?_
  obtain ⟨ds, chk⟩ := d
  have ok : ItOk (KX X κ) m1 S1 H1 J ds chk := ok
  refine ⟨fun i n σ' H' => n = ds.length - i ∧ i ≤ ds.length ∧ ∃ ρ' S' m', Nx (KX X κ) m1 S1 H1 m' S' H' ∧ Rl (KX X κ) m' S' H' ∧ RE (KX X κ) m' S' H' ρ' σ' ∧ chk S' ∧ PostS X κ W m' S' H' (forL g fb chk (ds.drop i) ρ' S') Dn,
    ⟨ds.length, by simp, Nat.zero_le _, ρ, S1, m1, .refl, rl1, re1, ok.here, by simpa using h1⟩, ?_⟩
  rintro i n σ2 H2 ⟨rfl, hi, ρ2, S2, m2, x2, rl2, re2, ck, h2⟩
  by_cases hlt : i < ds.length
  · have ed : ds.drop i = ds[i] :: ds.drop (i + 1) := List.drop_eq_getElem_cons hlt
    rw [ed] at h2
    obtain ⟨hgo, hy⟩ := ok.go κ m2 S2 H2 i ds[i] (fun _ z => .inl z) x2 rl2 ck (List.getElem?_eq_getElem hlt)
    refine .inr ⟨hgo, fun σ' H' => i + 1 ≤ ds.length ∧ ∃ ρ' S' m', Nx (KX X κ) m1 S1 H1 m' S' H' ∧ Rl (KX X κ) m' S' H' ∧ RE (KX X κ) m' S' H' ρ' σ' ∧ chk S' ∧ PostS X κ W m' S' H' (forL g fb chk (ds.drop (i + 1)) ρ' S') Dn,
      fun σ' H' z => ⟨ds.length - (i + 1), by omega, rfl, z.1, z.2⟩, fun x H'' y => ?_⟩
    obtain ⟨x3, rl3, r3⟩ := hy x H'' y
    refine ig κ ds[i] x ρ2 S2 σ2 H'' m2 _ rl3 (re2.nx x3) r3 ?_
    have h3 := PostS.nx x3 h2
    unfold forL at h3
    cases e1 : g ds[i] ρ2 S2 with
    | st => simp only [e1] at h3; exact h3.elim
    | ex _ _ => simp only [e1] at h3; exact h3.elim
    | ok ρ4 S4 =>
      simp only [e1] at h3
      intro σ4 H4 m4 x4 rl4 re4
      refine ib κ ρ4 S4 σ4 H4 m4 _ rl4 re4 ?_
      have h4 := PostS.nx x4 h3
      have x14 := (x2.trans x3).trans x4
      cases e2 : fb ρ4 S4 with
      | st => simp only [e2] at h4; exact h4.elim
      | nx ρ5 S5 =>
        simp only [e2] at h4
        intro σ5 H5 m5 x5 rl5 re5
        by_cases hc : chk S5
        · rw [if_pos hc] at h4
          exact ⟨hlt, ρ5, S5, m5, x14.trans x5, rl5, re5, hc, PostS.nx x5 h4⟩
        · rw [if_neg hc] at h4; exact h4.elim
      | ct ρ5 S5 =>
        simp only [e2] at h4
        intro σ5 H5 m5 x5 rl5 re5
        by_cases hc : chk S5
        · rw [if_pos hc] at h4
          exact ⟨hlt, ρ5, S5, m5, x14.trans x5, rl5, re5, hc, PostS.nx x5 h4⟩
        · rw [if_neg hc] at h4; exact h4.elim
      | bk ρ5 S5 => simp only [e2] at h4; exact h4
      | rt d5 S5 => simp only [e2] at h4; exact h4
      | ex x5 ρ5 S5 => simp only [e2] at h4; exact h4
  · have e0 : ds.drop i = [] := List.drop_eq_nil_of_le (Nat.le_of_not_lt hlt)
    rw [e0] at h2
    exact .inl ⟨ok.stop κ m2 S2 H2 i (fun _ z => .inl z) x2 rl2 ck (Nat.le_of_not_lt hlt), h2 σ2 H2 m2 .refl rl2 re2⟩
theorem ds_for {tg iter : Expr} {body : List Stmt} {f : Env → Sto → Rs IDt} {g : GD} {fb : SD} (hp : PassesOwn (model X.prog X.w) X.A X.env X.xe) (hc : X.calm = true) (hi : DI X W tg iter f) (hg : DG X W tg g) (hb : DSs X W body fb)
    (hs : ∀ x, foldedSetIterable iter X.env x = pure x := by intro _; rfl) : DS X W (.For tg iter body [] pos) (sFor f g fb) := by
  obtain ⟨wi, pi, ii⟩ := hi
  obtain ⟨t, pg, ig⟩ := hg
  obtain ⟨tb, pb, ib⟩ := hb
  exact ⟨_, ps_for hp hc pi pg pb hs, imp_for ii ig ib⟩
end
end DL

namespace DL
open PySem PySem.Spec PyProof.Rows L2
/-! ### defs -/
abbrev FD := List D → Sto → Rs D
def PostF (K : Kh) (mg : Str → Option Value) (m : List Addr) (S : Sto) (H : Hp) (r : Rs D) (Q : VK) (E : XK) : Prop := match r with
  | .st => False
  | .ok d S' => ∀ v H' m', Nx K m S H m' S' H' → Rl K m' S' H' → RD K m' S' H' d v → Q v H'
  | .ex x S' => ∀ H' m' c dd, Nx K m S H m' S' H' → Rl K m' S' H' → RX mg K (lv K m' S') H' x c dd → E c dd H'
def spOf (K : PySem.W.Frag) (mg : Str → Option Value) (n : Nat) (g : FD) : Sp := fun vs H Q E => vs.length = n ∧ ∃ κ ds S m, Rl ⟨K, κ⟩ m S H ∧ RDs ⟨K, κ⟩ m S H ds vs ∧ PostF ⟨K, κ⟩ mg m S H (g ds S) Q E
def noEx (r : Rs D) : Rs D := match r with
  | .ex _ _ => .st
  | r => r
@[simp] theorem noEx_ok (d : D) (S : Sto) : noEx (.ok d S) = .ok d S := rfl
/-- the def called x does g, by at most level k; it lets nothing out -/
structure FnD (P : Program) (w : World) (K : PySem.W.Frag) (mg : Str → Option Value) (base : Heap) (k : Nat) (x : Str) (n : Nat) (g : FD) : Prop where
  ex : ∃ (f : Addr) (fd : FuncData) (ps : List Str), ps.length = n ∧ mg x = some (.ref f) ∧ PySem.W.keepIn K (.ref f) = true ∧ Binds K fd ps [] ∧ FnOk P w K mg base CX0 k f fd ps (spOf K mg n fun ds S => noEx (g ds S))
/-- .. it may raise -/
structure FnX (P : Program) (w : World) (K : PySem.W.Frag) (mg : Str → Option Value) (base : Heap) (k : Nat) (x : Str) (n : Nat) (g : FD) : Prop where
  ex : ∃ (f : Addr) (fd : FuncData) (ps : List Str), ps.length = n ∧ mg x = some (.ref f) ∧ PySem.W.keepIn K (.ref f) = true ∧ Binds K fd ps [] ∧ FnOk P w K mg base (L2.CX P w) k f fd ps (spOf K mg n g)
/-- what stands in the end against what is told: things left behind are dropped -/
def Dn (S : Sto) (o : Out) (r : Rs D) : Prop := match r with
  | .st => True
  | .ok d S' => S.length ≤ S'.length ∧ ClS S'.length S' ∧ ClD S'.length d ∧ ((∃ T, o = .rt d (S' ++ T)) ∨ (d = .non ∧ ∃ ρ T, o = .nx ρ (S' ++ T)))
  | .ex x S' => S.length ≤ S'.length ∧ ClS S'.length S' ∧ ∃ ρ T, o = .ex x ρ (S' ++ T)
def start0 (N : List Str) (ds : List D) : Env := ds.map some ++ List.replicate (N.length - ds.length) none
section
variable {P : Program} {w : World} {K : PySem.W.Frag} {mg : Str → Option Value} {base : Heap}
theorem RE_start {K : Kh} {m : List Addr} {S : Sto} {H : Hp} {N : List Str} {ds : List D} {vs : List V} (r : RDs K m S H ds vs) : RE K m S H (start0 N ds) (L2.start N vs) := by
  unfold start0 L2.start
  rw [pairLen r]
  refine pairApp ?_ ?_
  · induction r with
    | nil => exact .nil
    | cons h _ ih => exact .cons (fun d e => by cases e; exact ⟨_, rfl, h⟩) ih
  · generalize N.length - vs.length = n
    induction n with
    | zero => exact .nil
    | succ n ih => exact .cons (fun d e => by cases e) ih
theorem post_of {X : Cx} {κ : Addr → Prop} {W : WX} {m : List Addr} {S : Sto} {H : Hp} {o : Out} {r : Rs D} {Q : VK} {E : XK} (rl : Rl (KX X κ) m S H) (dn : Dn S o r) (h : PostF (KX X κ) X.mg m S H r Q E) (hE : ∀ c dd σ H, E c dd H → W c dd σ H) :
    PostS X κ W m S H o { nx := fun _ H' => Q .non H', rt := Q } := by
  cases r with
  | st => exact h.elim
  | ok d S' =>
    obtain ⟨hl, cs, cd, dn⟩ := dn
    rcases dn with ⟨T, rfl⟩ | ⟨rfl, ρ, T, rfl⟩
    · exact fun v H' m' x rl' r => h v H' (m'.take S'.length) (x.drop rl rl' hl) (rl'.drop cs) (RD.drop r cd)
    · exact fun σ' H' m' x rl' r => h .non H' (m'.take S'.length) (x.drop rl rl' hl) (rl'.drop cs) RD.non_
  | ex y S' =>
    obtain ⟨hl, cs, ρ, T, rfl⟩ := dn
    refine fun σ' H' m' c dd x rl' re rx => hE c dd σ' H' (h H' (m'.take S'.length) c dd (x.drop rl rl' hl) (rl'.drop cs) ?_)
    exact rx
theorem Fun.dl {x : Str} {st : Stmt} {f : Addr} {fd : FuncData} {N ps : List Str} {k : Nat} {F : SD} {g : FD} (Fu : Fun K x x st f fd) (Sc : FnScope N ps (defScope st)) (gm : mg x = some (.ref f)) (bd : Binds K fd ps [])
    (body : ∀ (cdv : Value) (A : Around) (outer : List PySem.Env) (s : Shared) (H : Hp) (E : XK), Room k (A.deeper (envOfC x (defScope st) s.heap.objs.size f cdv)) →
      DSs (cxOf CX0 P w K mg base N x (defScope st) f cdv A outer s H E).nox (fun _ _ _ _ => False) (defBody st) F)
    (hg : ∀ ds S, ds.length = ps.length → ClS S.length S → (∀ d ∈ ds, ClD S.length d) → Dn S (F (start0 N ds) S) (g ds S)) : FnD P w K mg base (k + 1) x ps.length g := by
  refine ⟨f, fd, ps, rfl, gm, Fu.kp, bd, Fu.ok Sc (fun vs H Q E h => h.1) fun cdv A outer s H vs Q E hr h => ?_⟩
  obtain ⟨hl, κ, ds, S, m, rl, rd, po⟩ := h
  obtain ⟨t, pt, it⟩ := body cdv A outer s H E hr
  refine ⟨t, pt, it κ (start0 N ds) S (L2.start N vs) H m _ rl (RE_start rd) ?_⟩
  refine post_of (E := fun _ _ _ => False) rl (hg ds S ((pairLen rd).trans hl) rl.cl (fun d hd => ?_)) ?_ (fun _ _ _ _ z => z)
  · have := pairAll (F := RD ⟨K, κ⟩ m S H) (P := ClD m.length) (fun _ _ q => q.cl) rd d hd
    rw [rl.len] at this
    exact this
  · have po : PostF ⟨K, κ⟩ mg m S H (noEx (g ds S)) Q E := po
    cases e : g ds S with
    | st => rw [e] at po; exact po.elim
    | ok d S' => rw [e] at po; exact po
    | ex y S' => rw [e] at po; exact po.elim
/-- the same for a def that may raise -/
theorem Fun.dlX {x : Str} {st : Stmt} {f : Addr} {fd : FuncData} {N ps : List Str} {k : Nat} {F : SD} {g : FD} (Fu : Fun K x x st f fd) (Sc : FnScope N ps (defScope st)) (gm : mg x = some (.ref f)) (bd : Binds K fd ps [])
    (body : ∀ (cdv : Value) (A : Around) (outer : List PySem.Env) (s : Shared) (H : Hp) (E : XK), Room k (A.deeper (envOfC x (defScope st) s.heap.objs.size f cdv)) →
      DSs (cxOf (L2.CX P w) P w K mg base N x (defScope st) f cdv A outer s H E) (fun cls d _ H => E cls d H) (defBody st) F)
    (hg : ∀ ds S, ds.length = ps.length → ClS S.length S → (∀ d ∈ ds, ClD S.length d) → Dn S (F (start0 N ds) S) (g ds S)) : FnX P w K mg base (k + 1) x ps.length g := by
  refine ⟨f, fd, ps, rfl, gm, Fu.kp, bd, Fu.okX Sc (fun vs H Q E h => h.1) fun cdv A outer s H vs Q E hr h => ?_⟩
  obtain ⟨hl, κ, ds, S, m, rl, rd, po⟩ := h
  obtain ⟨t, pt, it⟩ := body cdv A outer s H E hr
  refine ⟨t, pt, it κ (start0 N ds) S (L2.start N vs) H m _ rl (RE_start rd) ?_⟩
  refine post_of (E := E) rl (hg ds S ((pairLen rd).trans hl) rl.cl (fun d hd => ?_)) po (fun _ _ _ _ z => z)
  have := pairAll (F := RD ⟨K, κ⟩ m S H) (P := ClD m.length) (fun _ _ q => q.cl) rd d hd
  rw [rl.len] at this
  exact this
end
section
variable {X : Cx} {W : WX} {m m1 : List Addr} {S S1 : Sto} {H H1 : Hp} {σ : St} {ρ : Env} {κ : Addr → Prop}
variable {a b c e o : Expr} {pos : Pos} {fa fb fe fo : ED} {es : List Expr} {ga : AD}
/-! ### calls -/
def eCall (n : Nat) (g : FD) (ga : AD) : ED := fun ρ S => (ga ρ S).bind fun ds S1 => if ds.length = n then noEx (g ds S1) else .st
def eCallX (n : Nat) (g : FD) (ga : AD) : ED := fun ρ S => (ga ρ S).bind fun ds S1 => if ds.length = n then g ds S1 else .st
theorem PostF.of {r : Rs D} {Q : VK} (h : Post X κ W m S H σ (RD (KX X κ)) r Q) : PostF (KX X κ) X.mg m S H r Q (fun c dd H' => W c dd σ H') := by
  cases r with
  | st => exact h
  | ok d S' => exact h
  | ex x S' => exact h
theorem PostF.no {r : Rs D} {Q : VK} {E : XK} (h : Post X κ W m S H σ (RD (KX X κ)) (noEx r) Q) : PostF (KX X κ) X.mg m S H (noEx r) Q E := by
  cases r with
  | st => exact h
  | ok d S' => exact h
  | ex x S' => exact h.elim
theorem de_call {k j n : Nat} {x : Str} {p : Pos} {g : FD} (F : FnD X.prog X.w X.K X.mg X.base k x n g) (hr : Room j X.A) (hk : k ≤ j) (hg : Gl X x) (ha : DA X W (e :: es) ga)
    (hd : (x == ("__debug__" : Str)) = false := by decide) (hs : starEach (e :: es) X.env = (false, eval e X.env) :: starEach es X.env := by rfl)
    (hp : (backTo pos (starEach es X.env)).any (·.1) = false := by rfl) : DE X W (.Call (.Name x p) (e :: es) [] pos) (eCall n g ga) := by
  obtain ⟨f, fd, ps, hl, gm, kp, bd, ok⟩ := F
  obtain ⟨t, q, i⟩ := ha
  refine ⟨_, pe_call ok (hr.mono hk) hg gm kp bd .nil pass0 q hd hs hp, fun κ ρ S σ H m Q rl re h => ?_⟩
  refine i.seq rl re h fun d S1 v H1 m1 x1 rl1 re1 r1 h1 => ?_
  split at h1
  · rename_i hn
    rw [List.append_nil]
    exact ⟨by rw [← pairLen r1]; exact hn, κ, d, S1, m1, rl1, r1, PostF.no h1⟩
  · exact h1.elim
theorem de_callX {k j n : Nat} {x : Str} {p : Pos} {g : FD} (F : FnX X.prog X.w X.K X.mg X.base k x n g) (tk : Takes X W) (hr : Room j X.A) (hk : k ≤ j) (hg : Gl X x) (ha : DA X W (e :: es) ga)
    (hd : (x == ("__debug__" : Str)) = false := by decide) (hs : starEach (e :: es) X.env = (false, eval e X.env) :: starEach es X.env := by rfl)
    (hp : (backTo pos (starEach es X.env)).any (·.1) = false := by rfl) : DE X W (.Call (.Name x p) (e :: es) [] pos) (eCallX n g ga) := by
  obtain ⟨f, fd, ps, hl, gm, kp, bd, ok⟩ := F
  obtain ⟨t, q, i⟩ := ha
  refine ⟨_, pe_callS (E := WE W) ok (hr.mono hk) hg gm kp bd (fun σ => passAt tk σ) q hd hs hp, fun κ ρ S σ H m Q rl re h => ?_⟩
  refine i.seq rl re h fun d S1 v H1 m1 x1 rl1 re1 r1 h1 => ?_
  split at h1
  · rename_i hn
    exact ⟨by rw [← pairLen r1]; exact hn, κ, d, S1, m1, rl1, r1, PostF.of h1⟩
  · exact h1.elim
/-! built-ins, by values -/
def CD (X : Cx) (W : WX) (f : Value) (g : FD) : Prop :=
  ∃ r : List V → Hp → VK → Prop, CallR X f r ∧ ∀ κ ds vs m S H σ Q, Rl (KX X κ) m S H → RDs (KX X κ) m S H ds vs → Post X κ W m S H σ (RD (KX X κ)) (g ds S) Q → r vs H Q
def eB (g : FD) (ga : AD) : ED := fun ρ S => (ga ρ S).bind fun ds S1 => g ds S1
theorem de_callB {x : Str} {p : Pos} {id : String} {g : FD} (c : CD X W (.builtin id) g) (hg : Gl X x) (hm : X.mg x = none) (hv : bootBuiltins x = some (.builtin id)) (ha : DA X W (e :: es) ga)
    (hn : x ≠ "__name__" := by decide) (hd : (x == ("__debug__" : Str)) = false := by decide) (hs : starEach (e :: es) X.env = (false, eval e X.env) :: starEach es X.env := by rfl)
    (hp : (backTo pos (starEach es X.env)).any (·.1) = false := by rfl) : DE X W (.Call (.Name x p) (e :: es) [] pos) (eB g ga) := by
  obtain ⟨r, cr, hr⟩ := c
  obtain ⟨t, q, i⟩ := ha
  refine ⟨_, pe_callB cr hg hm hv q hn hd hs hp, fun κ ρ S σ H m Q rl re h => ?_⟩
  exact i.seq rl re h fun d S1 v H1 m1 x1 rl1 re1 r1 h1 => hr κ d v m1 S1 H1 σ Q rl1 r1 h1
theorem de_callT {x : Str} {p : Pos} {T : String} {g : FD} (c : CD X W (.type T) g) (hg : Gl X x) (hm : X.mg x = none) (hv : bootBuiltins x = some (.type T)) (ha : DA X W (e :: es) ga)
    (hn : x ≠ "__name__" := by decide) (hd : (x == ("__debug__" : Str)) = false := by decide) (hs : starEach (e :: es) X.env = (false, eval e X.env) :: starEach es X.env := by rfl)
    (hp : (backTo pos (starEach es X.env)).any (·.1) = false := by rfl) : DE X W (.Call (.Name x p) (e :: es) [] pos) (eB g ga) := by
  obtain ⟨r, cr, hr⟩ := c
  obtain ⟨t, q, i⟩ := ha
  refine ⟨_, pe_callTy cr hg hm hv q hn hd hs hp, fun κ ρ S σ H m Q rl re h => ?_⟩
  exact i.seq rl re h fun d S1 v H1 m1 x1 rl1 re1 r1 h1 => hr κ d v m1 S1 H1 σ Q rl1 r1 h1
/-- len -/
def gLen : FD := fun ds S => match ds with
  | [.p (.str z)] => if z.length ≤ sizeLine then .ok (.int z.length) S else .st
  | [.p (.tuple l)] => .ok (.int l.length) S
  | [d] => (match lItems S d with | some l => .ok (.int l.length) S | none => .st)
  | _ => .st
theorem cd_len : CD X W (.builtin "len") gLen := by
  refine ⟨_, call_len, fun κ ds vs m S H σ Q rl rd h => ?_⟩
  unfold gLen at h
  split at h
  · split at h
    · rename_i z hl
      obtain ⟨v, rfl, r⟩ := RDs1 rd
      exact ⟨v, z.length, rfl, by rw [r.str]; exact ⟨hl, rfl⟩, h.ok' .refl rl RD.int_⟩
    · exact h.elim
  · rename_i l
    obtain ⟨v, rfl, r⟩ := RDs1 rd
    obtain ⟨p, ws, rfl, h1, h2⟩ := r.tup'
    exact ⟨_, l.length, rfl, .inr ⟨ws, .of h1, RPs_len h2⟩, h.ok' .refl rl RD.int_⟩
  · split at h
    · rename_i l e
      obtain ⟨v, rfl, r⟩ := RDs1 rd
      obtain ⟨p, ws, rfl, h1, h2⟩ := r.items rl e
      exact ⟨_, l.length, rfl, .inl ⟨ws, h1, pairLen h2⟩, h.ok' .refl rl RD.int_⟩
    · exact h.elim
  · exact h.elim
/-- int(x) of an int, a bool -/
def gToInt : FD := fun ds S => match ds with
  | [.p (.int i)] => .ok (.int i) S
  | [.p (.bool b)] => .ok (.int (if b then 1 else 0)) S
  | _ => .st
theorem cd_int : CD X W (.type "int") gToInt := by
  refine ⟨_, call_int1, fun κ ds vs m S H σ Q rl rd h => ?_⟩
  unfold gToInt at h
  split at h
  · obtain ⟨v, rfl, r⟩ := RDs1 rd
    exact .inl ⟨_, by rw [r.int], h.ok' .refl rl RD.int_⟩
  · obtain ⟨v, rfl, r⟩ := RDs1 rd
    exact .inr ⟨_, by rw [r.bl], h.ok' .refl rl RD.int_⟩
  · exact h.elim
def gToStr : FD := fun ds S => match ds with
  | [.p (.int i)] => if i.natAbs.log2 < 1920 then .ok (.str (toString i)) S else .st
  | _ => .st
theorem cd_str : CD X W (.type "str") gToStr := by
  refine ⟨_, call_str_int, fun κ ds vs m S H σ Q rl rd h => ?_⟩
  unfold gToStr at h
  split at h
  · split at h
    · rename_i i hl
      obtain ⟨v, rfl, r⟩ := RDs1 rd
      exact ⟨i, by rw [r.int], hl, h.ok' .refl rl RD.str_⟩
    · exact h.elim
  · exact h.elim
def gMin2 : FD := fun ds S => match ds with
  | [.p (.int i), .p (.int j)] => .ok (.int (if j < i then j else i)) S
  | _ => .st
def gMax2 : FD := fun ds S => match ds with
  | [.p (.int i), .p (.int j)] => .ok (.int (if j > i then j else i)) S
  | _ => .st
theorem cd_min2 (hc : X.calm = true) : CD X W (.builtin "min") gMin2 := by
  refine ⟨_, call_min2 hc, fun κ ds vs m S H σ Q rl rd h => ?_⟩
  unfold gMin2 at h
  split at h
  · obtain ⟨v, v', rfl, r, r'⟩ := RDs2 rd
    exact ⟨_, _, by rw [r.int, r'.int], h.ok' .refl rl RD.int_⟩
  · exact h.elim
theorem cd_max2 (hc : X.calm = true) : CD X W (.builtin "max") gMax2 := by
  refine ⟨_, call_max2 hc, fun κ ds vs m S H σ Q rl rd h => ?_⟩
  unfold gMax2 at h
  split at h
  · obtain ⟨v, v', rfl, r, r'⟩ := RDs2 rd
    exact ⟨_, _, by rw [r.int, r'.int], h.ok' .refl rl RD.int_⟩
  · exact h.elim
/-- list(x), tuple(x) -/
def seqP (S : Sto) : D → Option (List PyData)
  | .p (.tuple l) => some l
  | d => vList S d
def gToList : FD := fun ds S => match ds with
  | [d] => (match seqP S d with | some l => .ok (.lst l) S | none => .st)
  | _ => .st
/-- .. a list that will change -/
def seqD (S : Sto) : D → Option (List D)
  | .p (.tuple l) => some (l.map .p)
  | d => lItems S d
def gToListO : FD := fun ds S => match ds with
  | [d] => (match seqD S d with | some l => .ok (.ob S.length) (S ++ [.lst l]) | none => .st)
  | _ => .st
def gToTup : FD := fun ds S => match ds with
  | [.p (.tuple l)] => .ok (.tup l) S
  | [d] => (match vList S d with | some l => .ok (.tup l) S | none => .st)
  | _ => .st
theorem RD.seqP {d : D} {v : V} {l : List PyData} (r : Rl (KX X κ) m S H) (h : RD (KX X κ) m S H d v) (e : DL.seqP S d = some l) : ∃ a vs, v = .ref a ∧ (SqL X.K H a vs ∨ SqT X.K H a vs) ∧ RPs (KX X κ) H (lv (KX X κ) m S) l vs := by
  unfold DL.seqP at e
  split at e
  · cases e
    obtain ⟨p, vs, rfl, h1, h2⟩ := h.tup'
    exact ⟨p, vs, rfl, .inr (.of h1), h2⟩
  · obtain ⟨p, vs, rfl, h1, h2⟩ := h.vlist r e
    exact ⟨p, vs, rfl, .inl (.of h1), h2⟩
theorem RD.seqD {d : D} {v : V} {l : List D} (r : Rl (KX X κ) m S H) (h : RD (KX X κ) m S H d v) (e : DL.seqD S d = some l) : ∃ a vs, v = .ref a ∧ (SqL X.K H a vs ∨ SqT X.K H a vs) ∧ RDs (KX X κ) m S H l vs := by
  unfold DL.seqD at e
  split at e
  · cases e
    obtain ⟨p, vs, rfl, h1, h2⟩ := h.tup
    exact ⟨p, vs, rfl, .inr (h1), h2⟩
  · obtain ⟨p, vs, rfl, h1, h2⟩ := h.items r e
    exact ⟨p, vs, rfl, .inl h1, h2⟩
theorem cd_list : CD X W (.type "list") gToList := by
  refine ⟨_, call_list_of, fun κ ds vs m S H σ Q rl rd h => ?_⟩
  unfold gToList at h
  split at h
  · split at h
    · rename_i l e
      obtain ⟨v, rfl, r⟩ := RDs1 rd
      obtain ⟨p, ws, rfl, h1, h2⟩ := r.seqP rl e
      exact ⟨p, ws, rfl, h1, fun z hz => h.ok' (.new rl hz) (rl.new hz) (newL rl hz h2)⟩
    · exact h.elim
  · exact h.elim
theorem cd_listO : CD X W (.type "list") gToListO := by
  refine ⟨_, call_list_of, fun κ ds vs m S H σ Q rl rd h => ?_⟩
  unfold gToListO at h
  split at h
  · split at h
    · rename_i l e
      obtain ⟨v, rfl, r⟩ := RDs1 rd
      obtain ⟨p, ws, rfl, h1, h2⟩ := r.seqD rl e
      exact ⟨p, ws, rfl, h1, fun z hz => h.ok' (.push rl hz) (rl.pushL hz h2) (RD.push rl)⟩
    · exact h.elim
  · exact h.elim
theorem cd_tuple : CD X W (.type "tuple") gToTup := by
  refine ⟨_, call_tuple_of, fun κ ds vs m S H σ Q rl rd h => ?_⟩
  unfold gToTup at h
  split at h
  · obtain ⟨v, rfl, r⟩ := RDs1 rd
    obtain ⟨p, ws, rfl, h1, h2⟩ := r.tup'
    exact ⟨p, ws, rfl, .inr ⟨.of h1, h.ok' .refl rl (tup_of h1 h2)⟩⟩
  · split at h
    · rename_i l e
      obtain ⟨v, rfl, r⟩ := RDs1 rd
      obtain ⟨p, ws, rfl, h1, h2⟩ := r.vlist rl e
      exact ⟨p, ws, rfl, .inl ⟨.of h1, fun z hz => h.ok' (.new rl hz) (rl.new hz) (newT rl hz h2)⟩⟩
    · exact h.elim
  · exact h.elim
/-- isinstance(x, T), T a built-in type -/
def tyN : PyData → String
  | .none => "NoneType"
  | .bool _ => "bool"
  | .int _ => "int"
  | .str _ => "str"
  | .list _ => "list"
  | .tuple _ => "tuple"
  | .dict _ => "dict"
def tyD (S : Sto) : D → Option String
  | .p (.dict _) => none
  | .p d => some (tyN d)
  | .ob n => (match S[n]? with | some (.lst _) => some "list" | some (.fz _) => some "list" | some (.dic _) => some "dict" | _ => none)
  | _ => none
def eIsi (T : String) (f : ED) : ED := fun ρ S => (f ρ S).bind fun d S1 => match tyD S1 d with
  | some t => (match kitB t T with | some b => .ok (.bl b) S1 | none => .st)
  | none => .st
theorem RD.ty {d : D} {v : V} {t : String} (rl : Rl (KX X κ) m S H) (h : RD (KX X κ) m S H d v) (e : tyD S d = some t) : TyX X.K H v (.type t) := by
  unfold tyD at e
  split at e
  · cases e
  · rename_i d _
    cases e
    have h : RP _ _ _ _ _ := h
    cases d with
    | none => rw [RP] at h; subst h; exact .base .non
    | bool b => rw [RP] at h; subst h; exact .base (.bl b)
    | int i => rw [RP] at h; subst h; exact .base (.int i)
    | str x => rw [RP] at h; subst h; exact .base (.str x)
    | list l =>
      rw [RP] at h
      obtain ⟨a, vs, rfl, h1, _⟩ := h
      exact .base (.lst h1)
    | tuple l =>
      rw [RP] at h
      obtain ⟨a, vs, rfl, h1, _⟩ := h
      exact .base (.tup h1)
    | dict _ => rw [RP] at h; exact h.elim
  · obtain ⟨a, em, rfl⟩ := h
    split at e
    · rename_i es
      cases e
      obtain ⟨vs, h1, _⟩ := rl.obj _ a _ em es
      exact .base (.lst h1)
    · rename_i es
      cases e
      obtain ⟨vs, h1, _⟩ := rl.obj _ a _ em es
      exact .base (.lst h1)
    · rename_i es
      cases e
      obtain ⟨vs, h1, _⟩ := rl.obj _ a _ em es
      exact .base (.dT h1)
    · cases e
  · cases e
theorem de_isi {T : String} {x : Str} {p p2 : Pos} (hg : Gl X "isinstance") (hm : X.mg "isinstance" = none) (hgT : Gl X x) (hmT : X.mg x = none) (hvT : bootBuiltins x = some (.type T)) (he : DE X W e fe)
    (hv : bootBuiltins "isinstance" = some (.builtin "isinstance") := by decide +kernel) (hnT : x ≠ "__name__" := by decide) (hdT : (x == ("__debug__" : Str)) = false := by decide)
    (hs1 : starEach [e, .Name x p2] X.env = (false, eval e X.env) :: starEach [.Name x p2] X.env := by rfl) (hs2 : starEach [.Name x p2] X.env = (false, eval (.Name x p2) X.env) :: starEach [] X.env := by rfl)
    (hp : (backTo pos (starEach [.Name x p2] X.env)).any (·.1) = false := by rfl) :
    DE X W (.Call (.Name "isinstance" p) [e, .Name x p2] [] pos) (eIsi T fe) := by
  obtain ⟨t, q, i⟩ := he
  refine ⟨_, pe_callB call_isi hg hm hv (pa_cons q (pa_cons (pe_bltn (v := .ty T) hgT hmT hvT rfl hnT hdT) pa_nil hs2) hs1) (by decide) (by decide) hs1 hp, fun κ ρ S σ H m Q rl re h => ?_⟩
  refine i.seq rl re h fun d S1 v H1 m1 x1 rl1 re1 r1 h1 => ?_
  split at h1
  · rename_i t et
    split at h1
    · rename_i k ek
      exact ⟨v, .ty T, _, _, k, rfl, .ty T, r1.ty rl1 et, kit_ty ek, h1.ok' .refl rl1 RD.bl_⟩
    · exact h1.elim
  · exact h1.elim
end
end DL

namespace DL
open PySem PySem.Spec PyProof.Rows L2
section
variable {X : Cx} {W : WX} {m m1 : List Addr} {S S1 : Sto} {H H1 : Hp} {σ : St} {ρ : Env} {κ : Addr → Prop}
variable {a b c e o : Expr} {pos apos : Pos} {fa fb fe fo : ED} {es : List Expr} {ga : AD}
/-! ### methods -/
theorem ty_list {n : Nat} {v : V} {l : List D} (rl : Rl (KX X κ) m S H) (h : RD (KX X κ) m S H (.ob n) v) (es : S[n]? = some (.lst l)) : tyV X.K "list" v H := by
  obtain ⟨a, em, rfl⟩ := h
  obtain ⟨vs, q, _⟩ := rl.obj n a _ em es
  exact .inl ⟨rfl, vs, .of q⟩
/-- a list that stays one, wherever it is looked at -/
def isLst (S : Sto) : D → Bool
  | .p (.list _) => true
  | .ob n => (match S[n]? with | some (.lst _) => true | some (.fz _) => true | _ => false)
  | _ => false
theorem RD.isl {d : D} {v : V} (rl : Rl (KX X κ) m S H) (h : RD (KX X κ) m S H d v) (e : isLst S d = true) : tyV X.K "list" v H := by
  unfold isLst at e
  split at e
  · obtain ⟨a, vs, rfl, h1, _⟩ := h.lst
    exact .inl ⟨rfl, vs, .of h1⟩
  · obtain ⟨a, em, rfl⟩ := h
    split at e
    · rename_i es
      obtain ⟨vs, q, _⟩ := rl.obj _ a _ em es
      exact .inl ⟨rfl, vs, .of q⟩
    · rename_i es
      obtain ⟨vs, q, _⟩ := rl.obj _ a _ em es
      exact .inl ⟨rfl, vs, .of q⟩
    · cases e
  · cases e
/-- a method of a built-in type, by values: g of the receiver and the arguments -/
def MD (X : Cx) (W : WX) (id : String) (g : D → FD) : Prop :=
  ∃ r : V → List V → Hp → VK → Prop, MtR X id r ∧ ∀ κ x vx ds vs m S H σ Q, Rl (KX X κ) m S H → RD (KX X κ) m S H x vx → RDs (KX X κ) m S H ds vs → Post X κ W m S H σ (RD (KX X κ)) (g x ds S) Q → r vx vs H Q
def eMth (g : D → FD) (fo : ED) (ga : AD) : ED := fun ρ S => (fo ρ S).bind fun d S1 => if isLst S1 d = true then (ga ρ S1).bind fun ds S2 => g d ds S2 else .st
theorem de_mth {name : Str} {id : String} {g : D → FD} (md : MD X W id g) (slot : Slot "list" name id) (hty : typeOf (.builtin id) = pure (.type "method_descriptor")) (ho : DE X W o fo) (ha : DA X W (e :: es) ga)
    (hb : attributeBase o name X.env (eval o X.env) = eval o X.env := by rfl)
    (h1 : ((backTo pos (starEach (e :: es) X.env)).all (!·.1) && (backToKw pos (keywordEach [] X.env)).all (·.1.isSome) && decide ((e :: es).length + ([] : List Keyword).length + (if ([] : List Keyword).isEmpty then 0 else 1) < 30)) = true := by rfl)
    (h2 : (apos.endLine == pos.line) = true := by rfl) (hs : starEach (e :: es) X.env = (false, eval e X.env) :: starEach es X.env := by rfl) (hp : (backTo pos (starEach es X.env)).any (·.1) = false := by rfl) :
    DE X W (.Call (.Attribute o name apos) (e :: es) [] pos) (eMth g fo ga) := by
  obtain ⟨r, mr, hr⟩ := md
  obtain ⟨t1, p1, i1⟩ := ho
  obtain ⟨t2, p2, i2⟩ := ha
  refine ⟨_, pe_bm PySem.F.plainAttrs_list slot hty mr p1 p2 hb h1 h2 hs hp, fun κ ρ S σ H m Q rl re h => ?_⟩
  refine i1.seq rl re h fun d S1 v H1 m1 x1 rl1 re1 r1 h1 => ?_
  split at h1
  · rename_i el
    refine ⟨r1.isl rl1 el, ?_⟩
    refine i2.seq rl1 re1 h1 fun ds S2 vs H2 m2 x2 rl2 re2 r2 h2 => ?_
    exact hr κ d v ds vs m2 S2 H2 σ Q rl2 (r1.nx x2) r2 h2
  · exact h1.elim
theorem de_mth0 {name : Str} {id : String} {g : D → FD} (md : MD X W id g) (slot : Slot "list" name id) (hty : typeOf (.builtin id) = pure (.type "method_descriptor")) (ho : DE X W o fo)
    (hb : attributeBase o name X.env (eval o X.env) = eval o X.env := by rfl) (h2 : (apos.endLine == pos.line) = true := by rfl) :
    DE X W (.Call (.Attribute o name apos) [] [] pos) (eMth g fo aNil) := by
  obtain ⟨r, mr, hr⟩ := md
  obtain ⟨t1, p1, i1⟩ := ho
  refine ⟨_, pe_bm0 PySem.F.plainAttrs_list slot hty mr p1 hb h2, fun κ ρ S σ H m Q rl re h => ?_⟩
  refine i1.seq rl re h fun d S1 v H1 m1 x1 rl1 re1 r1 h1 => ?_
  split at h1
  · rename_i el
    exact ⟨r1.isl rl1 el, hr κ d v [] [] m1 S1 H1 σ Q rl1 r1 .nil h1⟩
  · exact h1.elim
theorem RDs_snoc {l : List D} {vs : List V} {d : D} {v : V} (h : RDs (KX X κ) m S H l vs) (h2 : RD (KX X κ) m S H d v) : RDs (KX X κ) m S H (l ++ [d]) (vs ++ [v]) := pairApp h (.cons h2 .nil)
/-- the list that changes, where it is one -/
def oLst (S : Sto) : D → Option (Nat × List D)
  | .ob n => (match S[n]? with | some (.lst l) => some (n, l) | _ => none)
  | _ => none
theorem oLst_some {S : Sto} {d : D} {n : Nat} {l : List D} (h : oLst S d = some (n, l)) : d = .ob n ∧ S[n]? = some (.lst l) := by
  unfold oLst at h
  split at h
  · split at h
    · rename_i es
      cases h
      exact ⟨rfl, es⟩
    · cases h
  · cases h
/-- xs.append(x) -/
def gApp : D → FD := fun d ds S => match ds with
  | [x] => (match restD x S with
    | some (p, S2) => (match oLst S2 d with
      | some (n, l) => if l.length < sizeLine then .ok .non (S2.set n (.lst (l ++ [.p p]))) else .st
      | none => .st)
    | none => .st)
  | _ => .st
theorem md_append : MD X W "list.append" gApp := by
  refine ⟨_, mt_append, fun κ x vx ds vs m S H σ Q rl rx rd h => ?_⟩
  unfold gApp at h
  split at h
  · obtain ⟨v, rfl, r⟩ := RDs1 rd
    split at h
    · rename_i p S2 ep
      obtain ⟨rl2, x2, r2⟩ := r.restD rl ep
      split at h
      · rename_i n l en
        obtain ⟨rfl, es⟩ := oLst_some en
        split at h
        · rename_i hl
          obtain ⟨a, em, rfl⟩ := rx
          obtain ⟨ws, q1, q2⟩ := rl2.obj n a _ em es
          refine ⟨a, ws, v, rfl, rfl, q1, by rw [← pairLen q2]; exact hl, ?_⟩
          exact h.ok' (x2.trans (Nx.put rl2 em es rfl)) (rl2.putL em es (RDs_snoc q2 r2)) RD.non_
        · exact h.elim
      · exact h.elim
    · exact h.elim
  · exact h.elim
/-- xs.extend(ys) -/
def gExt : D → FD := fun d ds S => match ds with
  | [y] => (match vList S y with
    | some l2 => (match oLst S d with
      | some (n, l) => if l.length + l2.length ≤ sizeLine then .ok .non (S.set n (.lst (l ++ l2.map .p))) else .st
      | none => .st)
    | none => .st)
  | _ => .st
theorem md_extend : MD X W "list.extend" gExt := by
  refine ⟨_, mt_extend, fun κ x vx ds vs m S H σ Q rl rx rd h => ?_⟩
  unfold gExt at h
  split at h
  · obtain ⟨v, rfl, r⟩ := RDs1 rd
    split at h
    · rename_i l2 el
      obtain ⟨b, ys, rfl, hb, r2⟩ := r.vlist rl el
      split at h
      · rename_i n l en
        obtain ⟨rfl, es⟩ := oLst_some en
        split at h
        · rename_i hl
          obtain ⟨a, em, rfl⟩ := rx
          obtain ⟨ws, q1, q2⟩ := rl.obj n a _ em es
          refine ⟨a, b, ws, ys, rfl, rfl, q1, hb, by rw [← pairLen q2, ← RPs_len r2]; exact hl, ?_⟩
          exact h.ok' (Nx.put rl em es rfl) (rl.putL em es (pairApp q2 (RDs_p.mpr r2))) RD.non_
        · exact h.elim
      · exact h.elim
    · exact h.elim
  · exact h.elim
/-- xs.pop() -/
def gPopL : D → FD := fun d ds S => match ds with
  | [] => (match oLst S d with
    | some (n, l) => (match l[l.length - 1]? with
      | some y => .ok y (S.set n (.lst l.dropLast))
      | none => .st)
    | none => .st)
  | _ => .st
theorem pairDropLast {α β : Type} {F : α → β → Prop} {l : List α} {r : List β} (q : Paired F l r) : Paired F l.dropLast r.dropLast := by
  rw [List.dropLast_eq_take, List.dropLast_eq_take, pairLen q]
  exact pairTake q _
theorem md_pop : MD X W "list.pop" gPopL := by
  refine ⟨_, mt_pop, fun κ x vx ds vs m S H σ Q rl rx rd h => ?_⟩
  unfold gPopL at h
  split at h
  · cases rd
    split at h
    · rename_i n l en
      obtain ⟨rfl, es⟩ := oLst_some en
      split at h
      · rename_i y ey
        obtain ⟨a, em, rfl⟩ := rx
        obtain ⟨ws, q1, q2⟩ := rl.obj n a _ em es
        obtain ⟨z, ez, rz⟩ := pairGet q2 ey
        refine ⟨a, ws, z, rfl, rfl, q1, by rw [← pairLen q2]; exact ez, ?_⟩
        have x2 := Nx.put (o' := .lst l.dropLast) (ho := .lst ws.dropLast) rl em es rfl
        exact h.ok' x2 (rl.putL em es (pairDropLast q2)) (rz.nx x2)
      · exact h.elim
    · exact h.elim
  · exact h.elim
/-- xs.reverse() -/
def gRevL : D → FD := fun d ds S => match ds with
  | [] => (match oLst S d with
    | some (n, l) => .ok .non (S.set n (.lst l.reverse))
    | none => .st)
  | _ => .st
theorem md_reverse : MD X W "list.reverse" gRevL := by
  refine ⟨_, mt_reverse, fun κ x vx ds vs m S H σ Q rl rx rd h => ?_⟩
  unfold gRevL at h
  split at h
  · cases rd
    split at h
    · rename_i n l en
      obtain ⟨rfl, es⟩ := oLst_some en
      obtain ⟨a, em, rfl⟩ := rx
      obtain ⟨ws, q1, q2⟩ := rl.obj n a _ em es
      exact ⟨a, ws, rfl, rfl, q1, h.ok' (Nx.put rl em es rfl) (rl.putL em es (pairRev q2)) RD.non_⟩
    · exact h.elim
  · exact h.elim
/-- xs.index(x): data -/
def gIdx : D → FD := fun d ds S => match ds with
  | [y] => (match vList S d, pNow S y with
    | some l, some p => if SeqAt.shaped (.list l) = true ∧ SeqAt.shaped p = true then (match l.findIdx? (fun z => PyData.eqv z p) with
      | some j => .ok (.int j) S
      | none => .st) else .st
    | _, _ => .st)
  | _ => .st
theorem md_index (hu : X.A.units + 65 < cLine) : MD X W "list.index" gIdx := by
  refine ⟨_, mt_indexD hu, fun κ x vx ds vs m S H σ Q rl rx rd h => ?_⟩
  unfold gIdx at h
  split at h
  · obtain ⟨v, rfl, r⟩ := RDs1 rd
    split at h
    · rename_i l p el ep
      split at h
      · rename_i hs
        split at h
        · rename_i j ej
          obtain ⟨a, ws, rfl, h1, h2⟩ := rx.vlist rl el
          obtain ⟨hj, e1, e2⟩ := List.findIdx?_eq_some_iff_getElem.mp ej
          refine ⟨a, v, p, l, j, l[j], rfl, rfl, .lst (.of h1) (RPs.dp _ _ h2), r.now rl ep, hs.1, hs.2, List.getElem?_eq_getElem hj, e1, fun k z hk ez => ?_, h.ok' .refl rl RD.int_⟩
          obtain ⟨h3, e3⟩ := List.getElem?_eq_some_iff.mp ez
          have := e2 k hk
          rw [e3] at this
          simpa using this
        · exact h.elim
      · exact h.elim
    · exact h.elim
  · exact h.elim
/-! texts' methods -/
def strsP : List PyData → Option (List Str)
  | [] => some []
  | .str z :: l => (strsP l).map (z :: ·)
  | _ :: _ => none
theorem strsP_some {κ : Kh} {L : Addr → Prop} : ∀ {l : List PyData} {zs : List Str} {vs : List V}, strsP l = some zs → RPs κ H L l vs → vs = zs.map V.str
  | [], zs, vs, h, r => by
    cases h
    rw [RPs] at r
    exact r
  | .str z :: l, zs, vs, h, r => by
    simp only [strsP, Option.map_eq_some_iff] at h
    obtain ⟨zs', h1, rfl⟩ := h
    rw [RPs] at r
    obtain ⟨v, vs', rfl, r1, r2⟩ := r
    rw [RP] at r1
    rw [r1, strsP_some h1 r2]
    rfl
def eJoin (fo fe : ED) : ED := fun ρ S => (fo ρ S).bind fun d S1 => match d with
  | .p (.str a) => (fe ρ S1).bind fun x S2 => (match seqP S2 x with
    | some l => (match strsP l with
      | some zs => if (zs.map (·.length)).sum + zs.length * a.length ≤ 16777216 then .ok (.str (Txt.join a zs)) S2 else .st
      | none => .st)
    | none => .st)
  | _ => .st
theorem de_join (ho : DE X W o fo) (he : DE X W e fe) (hs : starEach [e] X.env = [(false, eval e X.env)] := by rfl) (hb : attributeBase o "join" X.env (eval o X.env) = eval o X.env := by rfl) (hl : (apos.endLine == pos.line) = true := by rfl) :
    DE X W (.Call (.Attribute o "join" apos) [e] [] pos) (eJoin fo fe) := by
  obtain ⟨t1, p1, i1⟩ := ho
  obtain ⟨t2, p2, i2⟩ := he
  refine ⟨_, pe_join p1 p2 hs hb hl, fun κ ρ S σ H m Q rl re h => ?_⟩
  refine i1.seq rl re h fun d S1 v H1 m1 x1 rl1 re1 r1 h1 => ?_
  split at h1
  · rename_i a
    refine ⟨⟨a, r1.str⟩, ?_⟩
    refine i2.seq rl1 re1 h1 fun d2 S2 v2 H2 m2 x2 rl2 re2 r2 h2 => ?_
    split at h2
    · rename_i l el
      split at h2
      · rename_i zs ez
        split at h2
        · rename_i hz
          obtain ⟨p, vs, rfl, q1, q2⟩ := r2.seqP rl2 el
          have := strsP_some ez q2
          subst this
          exact ⟨a, p, zs, r1.str, rfl, q1, hz, h2.ok' .refl rl2 RD.str_⟩
        · exact h2.elim
      · exact h2.elim
    · exact h2.elim
  · exact h1.elim
end
end DL

namespace DL
open PySem PySem.Spec PyProof.Rows L2
section
variable {X : Cx} {W : WX} {m m1 : List Addr} {S S1 : Sto} {H H1 : Hp} {σ : St} {ρ : Env} {κ : Addr → Prop}
variable {a b c e o : Expr} {pos apos : Pos} {fa fb fe fo : ED} {es : List Expr} {ga : AD}
def flatD : PyData → Bool
  | .none => true
  | .bool _ => true
  | .int _ => true
  | .str _ => true
  | _ => false
/-- in a text (one sign), a list (data), a tuple (flat) -/
def gIn (neg : Bool) : D → D → Sto → Rs D := fun x y S => match x, y with
  | .p (.str t), .p (.str z) => (match t.cps.toList with
    | [c] => .ok (.bl (neg ^^ decide (c ∈ z.cps.toList))) S
    | _ => .st)
  | x, y => (match pNow S x, seqP S y with
    | some p, some l => if flatD p = true ∧ l.all flatD = true then .ok (.bl (neg ^^ l.any fun z => PyData.eqv z p)) S
        else if (vList S y).isSome = true ∧ SeqAt.shaped p = true ∧ SeqAt.shaped (.list l) = true then .ok (.bl (neg ^^ l.any fun z => PyData.eqv z p)) S else .st
    | _, _ => .st)
theorem flat_now {K : PySem.W.Frag} {d : PyData} {v : V} (h : Dp K H v d) (f : flatD d = true) : flatV v = true := by
  cases h <;> first | rfl | cases f
theorem eqv_now {K : PySem.W.Frag} {d d' : PyData} {v v' : V} (h : Dp K H v d) (h' : Dp K H v' d') (f : flatD d = true) (f' : flatD d' = true) : eqV v v' = PyData.eqv d d' := by
  cases h <;> cases h' <;> first | (cases f; done) | (cases f'; done) | rfl | simp [eqV, PyData.eqv, Bool.beq_eq_decide_eq]
theorem dps_pair {K : PySem.W.Frag} : ∀ {l : List PyData} {vs : List V}, DpAll K H vs l → Paired (fun d v => Dp K H v d) l vs
  | [], _, .nil => .nil
  | _ :: _, _, .cons h t => .cons h (dps_pair t)
theorem any_now {K : PySem.W.Frag} {p : PyData} {v : V} (h : Dp K H v p) (f : flatD p = true) : ∀ {l : List PyData} {vs : List V}, Paired (fun d v => Dp K H v d) l vs → l.all flatD = true → vs.all flatV = true ∧ inV v vs = l.any fun z => PyData.eqv z p
  | [], _, .nil, _ => ⟨rfl, rfl⟩
  | d :: l, _, .cons q t, e => by
    rw [List.all_cons, Bool.and_eq_true] at e
    obtain ⟨e1, e2⟩ := e
    obtain ⟨i1, i2⟩ := any_now h f t e2
    refine ⟨by rw [List.all_cons, flat_now q e1, i1]; rfl, ?_⟩
    unfold inV at i2 ⊢
    rw [List.any_cons, List.any_cons, i2, eqv_now q h e1 f]
theorem str_one {t : Str} {c : Nat} (h : t.cps.toList = [c]) : t = ⟨#[c]⟩ := by
  obtain ⟨⟨l⟩⟩ := t
  have : l = [c] := h
  rw [this]
theorem seq_vl {y : D} {l l' : List PyData} (h : seqP S y = some l) (h' : vList S y = some l') : l = l' := by
  unfold seqP at h
  split at h
  · cases h'
  · rw [h] at h'; exact Option.some.inj h'
theorem in_core {neg : Bool} {x y : D} {vx vy : V} {Q : VK} (rl : Rl (KX X κ) m S H) (rx : RD (KX X κ) m S H x vx) (ry : RD (KX X κ) m S H y vy) (h : Post X κ W m S H σ (RD (KX X κ)) (gIn neg x y S) Q) :
    (∃ (c : Nat) (z : Str), vx = .str ⟨#[c]⟩ ∧ vy = .str z ∧ Q (.bl (neg ^^ decide (c ∈ z.cps.toList))) H) ∨ rIn X.K neg vx vy H Q ∨
      ∃ d ds, Dp X.K H vx d ∧ Dp X.K H vy (.list ds) ∧ SeqAt.shaped d = true ∧ SeqAt.shaped (.list ds) = true ∧ Q (.bl (neg ^^ ds.any fun z => PyData.eqv z d)) H := by
  unfold gIn at h
  split at h
  · split at h
    · rename_i c ec
      exact .inl ⟨c, _, by rw [rx.str, str_one ec], ry.str, h.ok' .refl rl RD.bl_⟩
    · exact h.elim
  · split at h
    · rename_i p l ep el
      have dp := rx.now rl ep
      split at h
      · rename_i hf
        obtain ⟨q, vs, rfl, q1, q2⟩ := ry.seqP rl el
        obtain ⟨i1, i2⟩ := any_now dp hf.1 (dps_pair (RPs.dp _ _ q2)) hf.2
        refine .inr (.inl ⟨q, vs, rfl, q1, flat_now dp hf.1, i1, ?_⟩)
        rw [i2]
        have := h.ok' .refl rl RD.bl_
        cases neg with
        | true => rw [if_pos rfl]; simpa using this
        | false => rw [if_neg Bool.false_ne_true]; simpa using this
      · split at h
        · rename_i hs
          obtain ⟨l', el'⟩ := Option.isSome_iff_exists.mp hs.1
          have := seq_vl el el'
          subst this
          obtain ⟨q, vs, rfl, q1, q2⟩ := ry.vlist rl el'
          exact .inr (.inr ⟨p, l, dp, .lst (.of q1) (RPs.dp _ _ q2), hs.2.1, hs.2.2, h.ok' .refl rl RD.bl_⟩)
        · exact h.elim
    · exact h.elim
theorem od_in (hu : X.A.units + 65 < cLine) : OpD X W (compareOp .In) (gIn false) := by
  refine ⟨_, OpR.or op_in_sign (OpR.or op_in_seq (op_inD hu)), fun κ x y vx vy m S H σ Q rl rx ry h => ?_⟩
  rcases in_core rl rx ry h with ⟨c, z, e1, e2, q⟩ | q | ⟨d, ds, h1, h2, h3, h4, q⟩
  · exact .inl ⟨c, z, e1, e2, by simpa using q⟩
  · exact .inr (.inl q)
  · exact .inr (.inr ⟨d, ds, h1, h2, h3, h4, by simpa using q⟩)
theorem od_notin (hu : X.A.units + 65 < cLine) : OpD X W (compareOp .NotIn) (gIn true) := by
  refine ⟨_, OpR.or op_notIn_sign (OpR.or op_notIn_seq (op_notInD hu)), fun κ x y vx vy m S H σ Q rl rx ry h => ?_⟩
  rcases in_core rl rx ry h with ⟨c, z, e1, e2, q⟩ | q | ⟨d, ds, h1, h2, h3, h4, q⟩
  · exact .inl ⟨c, z, e1, e2, by simpa using q⟩
  · exact .inr (.inl q)
  · exact .inr (.inr ⟨d, ds, h1, h2, h3, h4, by simpa using q⟩)

/-! ### comprehensions -/
/-- the weakest reading that computes f -/
def can (X : Cx) (W : WX) {α β : Type} (R : Kh → List Addr → Sto → Hp → α → β → Prop) (f : Env → Sto → Rs α) : St → Hp → (β → Hp → Prop) → Prop := fun σ H Q =>
  ∃ κ ρ S m, Rl (KX X κ) m S H ∧ RE (KX X κ) m S H ρ σ ∧ Post X κ W m S H σ (R (KX X κ)) (f ρ S) Q
theorem DE.can (h : DE X W e fe) : PE X e (can X W RD fe) := by
  obtain ⟨t, p, i⟩ := h
  exact ⟨fun pins s σ H Q I ⟨κ, ρ, S, m, rl, re, h⟩ => p.run pins s σ H Q I (i κ ρ S σ H m Q rl re h)⟩
theorem DT.can {c : Expr} {f : BD} (h : DT X W c f) : PT X c (can X W RB f) := by
  obtain ⟨t, p, i⟩ := h
  exact ⟨fun pins s σ H Q I ⟨κ, ρ, S, m, rl, re, h⟩ => p.run pins s σ H Q I (i κ ρ S σ H m Q rl re h)⟩
/-- the tests of a comprehension -/
structure DTs (X : Cx) (W : WX) (ifs : List Expr) (f : BD) : Prop where
  run : PTs X ifs (DL.can X W RB f)
def bYes : BD := fun _ S => .ok true S
theorem dts_nil : DTs X W [] bYes := ⟨⟨fun pins s σ H Q I ⟨κ, ρ, S, m, rl, re, h⟩ => pts_nil.run pins s σ H Q I (h.ok' .refl rl rfl)⟩⟩
theorem dts_one {c : Expr} {f : BD} (h : DT X W c f) : DTs X W [c] f := ⟨pts_one h.can⟩
/-- a target that sets nothing but the slots vs -/
def canG (X : Cx) (vs : List Nat) (g : GD) : TG := fun v σ H Q => ∃ κ d ρ S m, Rl (KX X κ) m S H ∧ RE (KX X κ) m S H ρ σ ∧ RD (KX X κ) m S H d v ∧
  (match g d ρ S with
  | .ok ρ' S' => ∀ σ' H' m', Nx (KX X κ) m S H m' S' H' → Rl (KX X κ) m' S' H' → RE (KX X κ) m' S' H' ρ' σ' → wipe σ' vs = wipe σ vs → Q σ' H'
  | _ => False)
structure DGw (X : Cx) (tg : Expr) (vs : List Nat) (g : GD) : Prop where
  run : PG X tg (canG X vs g)
theorem wipe_set {σ : St} {i : Nat} {x : Option V} : ∀ {vs : List Nat}, i ∈ vs → wipe (σ.set i x) vs = wipe σ vs
  | v :: vs, h => by
    unfold wipe
    by_cases hv : i ∈ vs
    · rw [wipe_set hv]
    · have e : i = v := (List.mem_cons.mp h).resolve_right hv
      subst e
      clear h
      have key : ∀ vs : List Nat, i ∉ vs → wipe (σ.set i x) vs = (wipe σ vs).set i x := by
        intro vs
        induction vs with
        | nil => intro _; rfl
        | cons u us ih =>
          intro hn
          unfold wipe
          rw [ih fun z => hn (List.mem_cons_of_mem _ z)]
          rw [List.set_comm _ _ (fun z => hn (by rw [z]; exact List.mem_cons_self))]
      rw [key vs hv, List.set_set]
theorem dgw_name {i : Nat} {x : Str} {vs : List Nat} (hN : X.N.Nodup) (hi : X.N[i]? = some x) (hx : Loc X.env.scope x) (hv : i ∈ vs) (hf : X.fn x = true ∨ X.env.scope.names.lookup x = some .local := by first | exact .inl rfl | exact .inr rfl | assumption) : DGw X (.Name x pos) vs (gNm i) :=
  ⟨⟨fun pins s σ H v u Q I r ⟨κ, d, ρ, S, m, rl, re, rd, h⟩ => (pg_name hN hi hx hf).run pins s σ H v u Q I r (h _ H m .refl rl (pairSet re fun d' e => ⟨v, rfl, by cases e; exact rd⟩) (wipe_set hv))⟩⟩
/-- (a, b, ..) of names -/
def gNms : List Nat → GDs
  | [] => gsNil
  | i :: is => gsCons (gNm i) (gNms is)
theorem canGs_names {is vs : List Nat} (hv : ∀ i ∈ is, i ∈ vs) : ∀ {ds : List D} {ws : List V} {ρ : Env} {S : Sto} {σ : St} {H : Hp} {m : List Addr} {Q : St → Hp → Prop}, Rl (KX X κ) m S H → RE (KX X κ) m S H ρ σ → RDs (KX X κ) m S H ds ws →
    (match gNms is ds ρ S with
    | .ok ρ' S' => ∀ σ' H' m', Nx (KX X κ) m S H m' S' H' → Rl (KX X κ) m' S' H' → RE (KX X κ) m' S' H' ρ' σ' → wipe σ' vs = wipe σ vs → Q σ' H'
    | _ => False) → (is.foldr (fun i t => gCons (gName i) t) gNil) ws σ H Q := by
  induction is with
  | nil =>
    intro ds ws ρ S σ H m Q rl re rd h
    cases rd with
    | nil => exact ⟨rfl, h σ H m .refl rl re rfl⟩
    | cons _ _ => exact h.elim
  | cons i is ih =>
    intro ds ws ρ S σ H m Q rl re rd h
    cases rd with
    | nil => exact h.elim
    | cons q1 q2 =>
      rename_i d v ds ws
      refine ⟨v, ws, rfl, ?_⟩
      have re' : RE (KX X κ) m S H (ρ.set i (some d)) (σ.set i (some v)) := pairSet re fun d' e => ⟨v, rfl, by cases e; exact q1⟩
      refine ih (fun j hj => hv j (List.mem_cons_of_mem _ hj)) rl re' q2 ?_
      have e : gNms (i :: is) (d :: ds) ρ S = gNms is ds (ρ.set i (some d)) S := rfl
      rw [e] at h
      cases e2 : gNms is ds (ρ.set i (some d)) S with
      | st => rw [e2] at h; exact h.elim
      | ex _ _ => rw [e2] at h; exact h.elim
      | ok ρ' S' =>
        rw [e2] at h
        exact fun σ' H' m' x rl' re' wp => h σ' H' m' x rl' re' (wp.trans (wipe_set (hv i List.mem_cons_self)))
theorem dgw_tup {es : List Expr} {k n : Nat} {is vs : List Nat} (hc : X.calm = true) (hp : PGs X es (is.foldr (fun i t => gCons (gName i) t) gNil)) (hv : ∀ i ∈ is, i ∈ vs) (hn : (assignEach es X.env).length = n := by rfl) (hst : (assignEach es X.env).findIdx? (·.1) = none := by rfl) :
    DGw X (.Tuple es k pos) vs (gTupD n (gNms is)) := by
  refine ⟨⟨fun pins s σ H v u Q I r ⟨κ, d, ρ, S, m, rl, re, rd, h⟩ => (pg_tup hc hp hn hst).run pins s σ H v u Q I r ?_⟩⟩
  unfold gTupD at h
  split at h
  · rename_i ρ' S' e1
    split at e1
    · split at e1
      · rename_i l hl
        obtain ⟨q, ws, rfl, h1, h2⟩ := rd.tup
        refine ⟨q, ws, rfl, h1, by rw [← pairLen h2, List.length_map]; exact hl, canGs_names hv rl re h2 ?_⟩
        rw [e1]
        exact h
      · cases e1
    · cases e1
  · exact h.elim
theorem wipe_wipe (σ : St) {vs : List Nat} : ∀ us : List Nat, (∀ u ∈ us, u ∈ vs) → wipe (wipe σ us) vs = wipe σ vs
  | [], _ => rfl
  | u :: us, h => by
    show wipe ((wipe σ us).set u none) vs = _
    rw [wipe_set (h u List.mem_cons_self), wipe_wipe σ us fun v hv => h v (List.mem_cons_of_mem _ hv)]
def wipeE (ρ : Env) : List Nat → Env
  | [] => ρ
  | v :: vs => (wipeE ρ vs).set v none
theorem RE.wipe {ρ : Env} {σ : St} (re : RE (KX X κ) m S H ρ σ) : ∀ vs : List Nat, RE (KX X κ) m S H (wipeE ρ vs) (L2.wipe σ vs)
  | [] => re
  | v :: vs => pairSet (RE.wipe re vs) fun d e => by cases e
open Classical in
noncomputable def lcL (g : GD) (c : BD) (f : ED) (chk : Sto → Prop) (ρ : Env) : List D → List PyData → Sto → Option (List PyData × Sto)
  | [], acc, S => some (acc, S)
  | d :: ds, acc, S => match g d ρ S with
    | .ok ρ1 S1 => (match c ρ1 S1 with
      | .ok true S2 => (match f ρ1 S2 with
        | .ok y S3 => (match restD y S3 with
          | some (p, S4) => if acc.length < sizeLine ∧ chk S4 then lcL g c f chk ρ ds (acc ++ [p]) S4 else none
          | none => none)
        | _ => none)
      | .ok false S2 => if chk S2 then lcL g c f chk ρ ds acc S2 else none
      | _ => none)
    | _ => none
def okL (r : Option (List PyData × Sto)) : Rs D := match r with
  | some (l, S) => .ok (.lst l) S
  | none => .st
noncomputable def eLc (i : Env → Sto → Rs IDt) (g : GD) (c : BD) (f : ED) (vs : List Nat) : ED := fun ρ S => (i ρ S).bind fun d S1 => okL (lcL g c f d.2 (wipeE ρ vs) d.1 [] S1)
theorem imp_lc {wi : TI} {fi : Env → Sto → Rs IDt} {g : GD} {c : BD} {f : ED} {vs : List Nat} (ii : Imp X W (fun K m S H (d : IDt) (J : It) => ItOk K m S H J d.1 d.2) wi fi) :
    Imp X W RD (tLc wi (canG X vs g) (can X (fun _ _ _ _ => False) RB c) (can X (fun _ _ _ _ => False) RD f) vs) (eLc fi g c f vs) := by
  intro κ ρ S σ H m Q rl re h
  refine ii.seq rl re h fun d S1 J H1 m1 x1 rl1 re1 iok h1 => ?_
  obtain ⟨ds, chk⟩ := d
  have iok : ItOk (KX X κ) m1 S1 H1 J ds chk := iok
  intro L hL
  have hnk : ¬ κ L := fun z => by
    obtain ⟨u, e, _⟩ := (rl1.hid L z).2
    rw [hL] at e; cases e
  let κ' : Addr → Prop := fun a => κ a ∨ a = L
  have hsub : ∀ a, κ' a → κ a ∨ H1 a = none := fun a z => z.elim .inl fun z => .inr (by rw [z]; exact hL)
  have hL' : κ' L := .inr rfl
  -- the state between two turns
  let St' : Nat → Hp → Prop := fun i H2 => ∃ S2 m2 acc ws, Nx (KX X κ) m1 S1 H1 m2 S2 H2 ∧ Rl (KX X κ') m2 S2 H2 ∧ chk S2 ∧ H2 L = some (.lst ws) ∧ RPs (KX X κ') H2 (lv (KX X κ') m2 S2) acc ws ∧
    Post X κ W m1 S1 H1 σ (RD (KX X κ)) (okL (lcL g c f chk (wipeE ρ vs) (ds.drop i) acc S2)) Q
  refine ⟨fun i n H2 => n = ds.length - i ∧ i ≤ ds.length ∧ St' i H2, ⟨ds.length, by simp, Nat.zero_le _, S1, m1, [], [], Nx.new rl1 hL, rl1.hide hL trivial, iok.here, upd_same, by rw [RPs], h1⟩, ?_⟩
  rintro i n H2 ⟨rfl, hi, S2, m2, acc, ws, x2, rl2, ck, eL, racc, h2⟩
  by_cases hlt : i < ds.length
  · have ed : ds.drop i = ds[i] :: ds.drop (i + 1) := List.drop_eq_getElem_cons hlt
    rw [ed] at h2
    obtain ⟨hgo, hy⟩ := iok.go κ' m2 S2 H2 i ds[i] hsub x2 rl2 ck (List.getElem?_eq_getElem hlt)
    refine .inr ⟨hgo, fun H' => i + 1 ≤ ds.length ∧ St' (i + 1) H', fun H' z => ⟨ds.length - (i + 1), by omega, rfl, z.1, z.2⟩, fun x H'' y => ?_⟩
    obtain ⟨x3, rl3, r3⟩ := hy x H'' y
    have re3 : RE (KX X κ') m2 S2 H'' (wipeE ρ vs) (L2.wipe σ vs) := (RE.nxh (K := KX X κ) x2 hsub (RE.wipe re1 vs)).nx x3
    unfold lcL at h2
    refine ⟨κ', ds[i], wipeE ρ vs, S2, m2, rl3, re3, r3, ?_⟩
    cases e1 : g ds[i] (wipeE ρ vs) S2 with
    | st => simp only [e1] at h2; exact h2.elim
    | ex _ _ => simp only [e1] at h2; exact h2.elim
    | ok ρ4 S4 =>
      simp only [e1] at h2
      intro σ4 H4 m4 x4 rl4 re4 wp
      refine ⟨wp.trans (wipe_wipe σ vs (fun _ z => z)), κ', ρ4, S4, m4, rl4, re4, ?_⟩
      cases e2 : c ρ4 S4 with
      | st => simp only [e2] at h2; exact h2.elim
      | ex _ _ => simp only [e2] at h2; exact h2.elim
      | ok b S5 =>
        intro b' H5 m5 x5 rl5 eb
        have eb : b = b' := eb
        subst eb
        have x25 := x3.trans (x4.trans x5)
        cases b with
        | true =>
          simp only [e2] at h2
          rw [if_pos rfl]
          refine ⟨κ', ρ4, S5, m5, rl5, re4.nx x5, ?_⟩
          cases e3 : f ρ4 S5 with
          | st => simp only [e3] at h2; exact h2.elim
          | ex _ _ => simp only [e3] at h2; exact h2.elim
          | ok y5 S6 =>
            simp only [e3] at h2
            intro v6 H6 m6 x6 rl6 r6
            cases e4 : restD y5 S6 with
            | none => simp only [e4] at h2; exact h2.elim
            | some pr =>
              obtain ⟨p, S7⟩ := pr
              simp only [e4] at h2
              by_cases hk : acc.length < sizeLine ∧ chk S7
              · rw [if_pos hk] at h2
                obtain ⟨rl7, x7, r7⟩ := r6.restD rl6 e4
                have x27 := x25.trans (x6.trans x7)
                have eL6 : H6 L = some (.lst ws) := (x27.hid L hL').trans eL
                have ra6 := racc.nx x27
                refine ⟨ws, eL6, by rw [← RPs_len ra6]; exact hk.1, hlt, S7, m6, acc ++ [p], ws ++ [v6], ?_, rl7.hidw hL' trivial, hk.2, upd_same, ?_, h2⟩
                · exact Nx.hidw (x2.hidden (h' := κ') x27 (fun a z => .inl z) hsub) hL ⟨_, eL6, trivial⟩ hnk
                · have hm := hid_upd_lst (o := .lst (ws ++ [v6])) rl7 hL'
                  have ht : ∀ a us, H6 a = some (.tup us) → (upd H6 L (.lst (ws ++ [v6]))) a = some (.tup us) := fun a us h => sqT_upd h (.inr ⟨_, eL6, trivial⟩)
                  exact RPs.mono (K := KX X κ') ht hm _ _ (RPs_app ra6 (RPs_iff.mpr (.cons r7 .nil)))
              · rw [if_neg hk] at h2; exact h2.elim
        | false =>
          simp only [e2] at h2
          rw [if_neg Bool.false_ne_true]
          by_cases hk : chk S5
          · rw [if_pos hk] at h2
            refine ⟨hlt, S5, m5, acc, ws, x2.hidden (h' := κ') x25 (fun a z => .inl z) hsub, rl5, hk, (x25.hid L hL').trans eL, racc.nx x25, h2⟩
          · rw [if_neg hk] at h2; exact h2.elim
  · have e0 : ds.drop i = [] := List.drop_eq_nil_of_le (Nat.le_of_not_lt hlt)
    rw [e0] at h2
    refine .inl ⟨iok.stop κ' m2 S2 H2 i hsub x2 rl2 ck (Nat.le_of_not_lt hlt), ?_⟩
    refine h2 (.ref L) H2 m2 x2 (Rl.unh (K := KX X κ') (h' := κ) (fun a z => .inl z) rl2) ?_
    show RP _ _ _ _ _
    rw [RP]
    refine ⟨L, ws, rfl, eL, ?_, ?_⟩
    · rintro (z | ⟨k, o, z1, z2, z3⟩)
      · exact hnk z
      · exact (rl2.hid L hL').1 (List.mem_of_getElem? z1)
    · have := RDs_p.mpr racc
      exact RDs_p.mp (pairMono (fun _ _ => RD.unh (K := KX X κ') (h' := κ) (fun a z => .inl z)) this)
section
variable {elt tg iter : Expr} {ifs : List Expr} {scope : Scope} {own : List (Str × Nat)} {fi : Env → Sto → Rs IDt} {g : GD} {c : BD} {f : ED}
theorem de_lc (hc : X.calm = true) (hN : X.N.Nodup) (hi : DI X W tg iter fi) (ok : BlkOk X.N X.env.scope scope own)
    (hg : ∀ (s : Shared) (H : Hp) (C : Addr) (cl : List (Str × Addr)) (fp : List Addr), DGw (X.blk s H scope (compEnvC scope cl C X.env) fp) tg (own.map fun x => x.2) g)
    (ht : ∀ (s : Shared) (H : Hp) (C : Addr) (cl : List (Str × Addr)) (fp : List Addr), DTs (X.blk s H scope (compEnvC scope cl C X.env) fp) (fun _ _ _ _ => False) ifs c)
    (he : ∀ (s : Shared) (H : Hp) (C : Addr) (cl : List (Str × Addr)) (fp : List Addr), DE (X.blk s H scope (compEnvC scope cl C X.env) fp) (fun _ _ _ _ => False) elt f)
    (hs : ∀ x, foldedSetIterable iter X.env x = pure x := by intro _; rfl) : DE X W (.ListComp elt [⟨tg, iter, ifs, 0⟩] scope pos) (eLc fi g c f (own.map fun x => x.2)) := by
  obtain ⟨wi, pi, ii⟩ := hi
  exact ⟨_, @pe_lc X elt tg iter ifs scope own pos wi (canG X (List.map (fun (x : Str × Nat) => x.2) own) g) (can X (fun _ _ _ _ => False) RB c) (can X (fun _ _ _ _ => False) RD f) hc hN pi ok (fun s H C cl fp => (hg s H C cl fp).run) (fun s H C cl fp => (ht s H C cl fp).run) (fun s H C cl fp => (he s H C cl fp).can) hs, imp_lc ii⟩
theorem ds_setLc (i : Nat) {y : Str} {py spos : Pos} (hN : X.N.Nodup) (hi : DI X W tg iter fi) (ok : BlkOk X.N X.env.scope scope own)
    (hg : ∀ (s : Shared) (H : Hp) (C : Addr) (cl : List (Str × Addr)) (fp : List Addr), DGw (X.blk s H scope (compEnvC scope cl C X.env) fp) tg (own.map fun x => x.2) g)
    (ht : ∀ (s : Shared) (H : Hp) (C : Addr) (cl : List (Str × Addr)) (fp : List Addr), DTs (X.blk s H scope (compEnvC scope cl C X.env) fp) (fun _ _ _ _ => False) ifs c)
    (he : ∀ (s : Shared) (H : Hp) (C : Addr) (cl : List (Str × Addr)) (fp : List Addr), DE (X.blk s H scope (compEnvC scope cl C X.env) fp) (fun _ _ _ _ => False) elt f)
    (hc : X.calm = true := by rfl) (hy : X.N[i]? = some y := by rfl) (hyl : X.env.scope.names.lookup y = some .local := by rfl) (hsw : swapsWith (.ListComp elt [⟨tg, iter, ifs, 0⟩] scope pos) (some (.Name y py)) spos.line X.env = pure true := by exact sw_true rfl rfl rfl (by decide +kernel))
    (hs : ∀ x, foldedSetIterable iter X.env x = pure x := by intro _; rfl) : DS X W (.Assign [.Name y py] (.ListComp elt [⟨tg, iter, ifs, 0⟩] scope pos) spos) (sSet i (eLc fi g c f (own.map fun x => x.2))) := by
  obtain ⟨wi, pi, ii⟩ := hi
  refine ⟨_, @ps_setLc X i y py elt tg iter ifs scope own pos spos wi (canG X (List.map (fun (x : Str × Nat) => x.2) own) g) (can X (fun _ _ _ _ => False) RB c) (can X (fun _ _ _ _ => False) RD f) hc hN hy hyl hsw pi ok (fun s H C cl fp => (hg s H C cl fp).run) (fun s H C cl fp => (ht s H C cl fp).run) (fun s H C cl fp => (he s H C cl fp).can) hs, fun κ ρ S σ H m Dn rl re h => ?_⟩
  refine (imp_lc ii).seqS rl re h fun d S1 v H1 m1 x1 rl1 re1 r1 h1 => ?_
  exact h1 _ H1 m1 .refl rl1 (pairSet re1 fun d' e => ⟨v, rfl, by cases e; exact r1⟩)
end
end
end DL

namespace DL
open PySem PySem.Spec PyProof.Rows L2
section
variable {X : Cx} {W : WX} {e : Expr} {pos : Pos} {fe : ED} {es : List Expr} {ga : AD}
/-- slot i -/
theorem dv (i : Nat) {x : Str} {pos : Pos} (hN : X.N[i]? = some x := by rfl) (hv : Vis X.env.scope x := by first | exact Or.inl rfl | exact Or.inr (Or.inl rfl) | exact Or.inr (Or.inr rfl)) (hd : (x == ("__debug__" : Str)) = false := by decide)
    (hcd : (x == ("__classdict__" : Str)) = false := by decide) : DE X W (.Name x pos) (eVar i) := de_var hN hv hd hcd
/-- a number that the module names -/
theorem de_globI {x : Str} {i : Int} (hg : Gl X x) (hm : ∃ t, X.mg x = some (.int i t)) (hd : (x == ("__debug__" : Str)) = false := by decide) : DE X W (.Name x pos) (eC (.int i)) := by
  obtain ⟨t, hm⟩ := hm
  refine ⟨tC (.int i), pe_glob hg hm ⟨t, rfl⟩ hd, fun κ ρ S σ H m Q rl re h => h.ok' .refl rl RD.int_⟩
theorem dset (i : Nat) {x : Str} {pos' : Pos} (hN : X.N.Nodup) (he : DE X W e fe) (hi : X.N[i]? = some x := by rfl) (hx : Loc X.env.scope x := by first | exact Or.inl rfl | exact Or.inr rfl) (hs : swapsWith e (some (.Name x pos')) pos.line X.env = pure false := by rfl)
    (hf : X.fn x = true ∨ X.env.scope.names.lookup x = some .local := by first | exact .inl rfl | exact .inr rfl) : DS X W (.Assign [.Name x pos'] e pos) (sSet i fe) := ds_set hN hi hx he hs hf
theorem daug (i : Nat) {x : Str} {op : Operator} {pos' : Pos} {g : D → D → Sto → Rs D} (hN : X.N.Nodup) (he : DE X W e fe) (ho : OpD X W (inplaceOp op) g) (hi : X.N[i]? = some x := by rfl) (hx : Loc X.env.scope x := by first | exact Or.inl rfl | exact Or.inr rfl)
    (hf : X.fn x = true ∨ X.env.scope.names.lookup x = some .local := by first | exact .inl rfl | exact .inr rfl) : DS X W (.AugAssign (.Name x pos') op e pos) (sAug i fe g) := ds_aug hN hi hx he ho hf
theorem dgn (i : Nat) {x : Str} (hN : X.N.Nodup) (hi : X.N[i]? = some x := by rfl) (hx : Loc X.env.scope x := by first | exact Or.inl rfl | exact Or.inr rfl) (hf : X.fn x = true ∨ X.env.scope.names.lookup x = some .local := by first | exact .inl rfl | exact .inr rfl) : DG X W (.Name x pos) (gNm i) := dg_name hN hi hx hf
theorem dgw (i : Nat) {x : Str} {vs : List Nat} (hN : X.N.Nodup) (hv : i ∈ vs) (hi : X.N[i]? = some x := by rfl) (hx : Loc X.env.scope x := by first | exact Or.inl rfl | exact Or.inr rfl) (hf : X.fn x = true ∨ X.env.scope.names.lookup x = some .local := by first | exact .inl rfl | exact .inr rfl) : DGw X (.Name x pos) vs (gNm i) := dgw_name hN hi hx hv hf
theorem pgn (i : Nat) {x : Str} (hN : X.N.Nodup) (hi : X.N[i]? = some x := by rfl) (hx : Loc X.env.scope x := by first | exact Or.inl rfl | exact Or.inr rfl) (hf : X.fn x = true ∨ X.env.scope.names.lookup x = some .local := by first | exact .inl rfl | exact .inr rfl) : PG X (.Name x pos) (gName i) := pg_name hN hi hx hf
end
end DL

/-! how the words come out, step by step (for simp) -/
namespace DL
open PySem PySem.Spec PyProof.Rows L2
section
variable {ρ : Env} {S : Sto} {f g h : ED} {ga : AD} {x y : D} {i j : Int} {k n : Nat} {b c : BD} {d e : PyData} {l l' : List PyData} {ds : List D} {s t : SD}
def oRs {α : Type} (o : Option α) (S : Sto) : Rs α := match o with
  | some a => .ok a S
  | none => .st
@[simp] theorem oRs_some {α : Type} (a : α) (S : Sto) : oRs (some a) S = .ok a S := rfl
@[simp] theorem oRs_none {α : Type} (S : Sto) : oRs (none : Option α) S = .st := rfl
@[simp] theorem Rs.bind_st {α β : Type} (f : α → Sto → Rs β) : Rs.bind .st f = .st := rfl
@[simp] theorem liftS_st {α : Type} (ρ : Env) (k : α → Sto → Out) : liftS ρ .st k = .st := rfl
@[simp] theorem liftS_ex {α : Type} (ρ : Env) (x : Xc) (S : Sto) (k : α → Sto → Out) : liftS ρ (.ex x S) k = .ex x ρ S := rfl
@[simp] theorem Rs.bind_ex {α β : Type} (x : Xc) (S : Sto) (f : α → Sto → Rs β) : Rs.bind (.ex x S) f = .ex x S := rfl
@[simp] theorem eVar_ap : eVar k ρ S = oRs (ρ[k]?.join) S := by
  unfold eVar
  cases h : ρ[k]? with
  | none => rfl
  | some o => cases o <;> rfl
@[simp] theorem eC_ap : eC d ρ S = .ok (.p d) S := rfl
@[simp] theorem eBin_ap {o : D → D → Sto → Rs D} : eBin o f g ρ S = (f ρ S).bind fun x S1 => (g ρ S1).bind fun y S2 => o x y S2 := rfl
def isB : D → Option Bool
  | .p (.bool b) => some b
  | _ => none
@[simp] theorem isB_bl {b : Bool} : isB (.p (.bool b)) = some b := rfl
@[simp] theorem asB_ap : asB f ρ S = (f ρ S).bind fun x S1 => oRs (isB x) S1 := by
  unfold asB
  congr 1
  funext x S1
  cases x with
  | p d => cases d <;> rfl
  | ob _ => rfl
  | scr _ => rfl
  | xc _ _ _ => rfl
@[simp] theorem eChain_ap {o o' : D → D → Sto → Rs D} : eChain o o' f g h ρ S = (f ρ S).bind fun x S1 => (g ρ S1).bind fun y S2 => (o x y S2).bind fun z S3 => match z with
  | .p (.bool true) => (h ρ S3).bind fun w S4 => o' y w S4
  | .p (.bool false) => .ok (.bl false) S3
  | _ => .st := rfl
@[simp] theorem bAnd_ap : bAnd b c ρ S = (b ρ S).bind fun x S1 => if x = true then c ρ S1 else .ok false S1 := rfl
@[simp] theorem bOr_ap : bOr b c ρ S = (b ρ S).bind fun x S1 => if x = true then .ok true S1 else c ρ S1 := rfl
@[simp] theorem bNot_ap : bNot b ρ S = (b ρ S).bind fun x S1 => .ok (!x) S1 := rfl
@[simp] theorem bTru_ap : bTru f ρ S = (f ρ S).bind fun x S1 => oRs (truD S1 x) S1 := by
  unfold bTru
  congr 1
  funext x S1
  cases truD S1 x <;> rfl
@[simp] theorem eAnd_ap : eAnd f g ρ S = (f ρ S).bind fun x S1 => match x with
  | .p (.bool true) => g ρ S1
  | .p (.bool false) => .ok (.bl false) S1
  | _ => .st := rfl
@[simp] theorem eOr_ap : eOr f g ρ S = (f ρ S).bind fun x S1 => match x with
  | .p (.bool false) => g ρ S1
  | .p (.bool true) => .ok (.bl true) S1
  | _ => .st := rfl
@[simp] theorem eNot_ap : eNot f ρ S = (f ρ S).bind fun x S1 => match x with
  | .p (.bool b) => .ok (.bl (!b)) S1
  | _ => .st := rfl
@[simp] theorem eNeg_ap : eNeg f ρ S = (f ρ S).bind fun x S1 => match x with
  | .p (.int i) => .ok (.int (-i)) S1
  | _ => .st := rfl
@[simp] theorem eIf_ap : eIf b f g ρ S = (b ρ S).bind fun x S1 => if x = true then f ρ S1 else g ρ S1 := rfl
@[simp] theorem aNil_ap : aNil ρ S = .ok [] S := rfl
@[simp] theorem aCons_ap : aCons f ga ρ S = (f ρ S).bind fun x S1 => (ga ρ S1).bind fun xs S2 => .ok (x :: xs) S2 := rfl
@[simp] theorem eTup_ap : eTup ga ρ S = (ga ρ S).bind fun ds S1 => match restAll ds S1 with
  | some (l, S2) => if l.length ≤ sizeLine then .ok (.tup l) S2 else .st
  | none => .st := rfl
@[simp] theorem eLst_ap : eLst ga ρ S = (ga ρ S).bind fun ds S1 => match restAll ds S1 with
  | some (l, S2) => if l.length ≤ sizeLine then .ok (.lst l) S2 else .st
  | none => .st := rfl
@[simp] theorem eLstO_ap : eLstO ga ρ S = (ga ρ S).bind fun ds S1 => if ds.length ≤ sizeLine then .ok (.ob S1.length) (S1 ++ [.lst ds]) else .st := rfl
@[simp] theorem eB_ap {o : FD} : eB o ga ρ S = (ga ρ S).bind fun ds S1 => o ds S1 := rfl
@[simp] theorem eCall_ap {o : FD} : eCall n o ga ρ S = (ga ρ S).bind fun ds S1 => if ds.length = n then noEx (o ds S1) else .st := rfl
@[simp] theorem eMth_ap {o : D → FD} : eMth o f ga ρ S = (f ρ S).bind fun d S1 => if isLst S1 d = true then (ga ρ S1).bind fun ds S2 => o d ds S2 else .st := rfl
@[simp] theorem eIsi_ap {T : String} : eIsi T f ρ S = (f ρ S).bind fun d S1 => match tyD S1 d with
  | some t => (match kitB t T with | some b => .ok (.bl b) S1 | none => .st)
  | none => .st := rfl
@[simp] theorem eSl_ap {lo hi : Env → Sto → Rs (Option Int)} : eSl f lo hi ρ S = (f ρ S).bind fun x S1 => (lo ρ S1).bind fun lo S2 => (hi ρ S2).bind fun hi S3 => gSl x lo hi S3 := rfl
@[simp] theorem oNone_ap : oNone ρ S = .ok none S := rfl
@[simp] theorem oSome_ap : oSome f ρ S = (f ρ S).bind fun x S1 => match x with
  | .p (.int i) => .ok (some i) S1
  | _ => .st := rfl
@[simp] theorem eLc_ap {fi : Env → Sto → Rs IDt} {gt : GD} {vs : List Nat} : eLc fi gt b f vs ρ S = (fi ρ S).bind fun d S1 => okL (lcL gt b f d.2 (wipeE ρ vs) d.1 [] S1) := rfl
@[simp] theorem okL_some : okL (some (l, S)) = .ok (.lst l) S := rfl
def seqO (o : Out) (t : SD) : Out := match o with
  | .nx ρ1 S1 => t ρ1 S1
  | o => o
@[simp] theorem seqO_nx : seqO (.nx ρ S) t = t ρ S := rfl
@[simp] theorem seqO_rt : seqO (.rt x S) t = .rt x S := rfl
@[simp] theorem seqO_bk : seqO (.bk ρ S) t = .bk ρ S := rfl
@[simp] theorem seqO_ct : seqO (.ct ρ S) t = .ct ρ S := rfl
@[simp] theorem seqO_ex {x : Xc} : seqO (.ex x ρ S) t = .ex x ρ S := rfl
@[simp] theorem sSeq_ap : sSeq s t ρ S = seqO (s ρ S) t := rfl
@[simp] theorem sNil_ap : sNil ρ S = .nx ρ S := rfl
@[simp] theorem sBrk_ap : sBrk ρ S = .bk ρ S := rfl
@[simp] theorem sCnt_ap : sCnt ρ S = .ct ρ S := rfl
@[simp] theorem sExpr_ap : sExpr f ρ S = liftS ρ (f ρ S) fun _ S1 => .nx ρ S1 := rfl
def rtO (o : Option (PyData × Sto)) : Out := match o with
  | some (p, S2) => .rt (.p p) S2
  | none => .st
@[simp] theorem rtO_some : rtO (some (d, S)) = .rt (.p d) S := rfl
@[simp] theorem sRetR_ap : sRetR f ρ S = liftS ρ (f ρ S) fun d S1 => rtO (restD d S1) := rfl
@[simp] theorem sRetN_ap : sRetN ρ S = .rt .non S := rfl
@[simp] theorem sIf_ap : sIf b s t ρ S = liftS ρ (b ρ S) fun b S1 => if b = true then s ρ S1 else t ρ S1 := rfl
@[simp] theorem sSet_ap : sSet k f ρ S = liftS ρ (f ρ S) fun d S1 => .nx (ρ.set k (some d)) S1 := rfl
def nxG (r : Rs Env) : Out := match r with
  | .ok ρ1 S2 => .nx ρ1 S2
  | _ => .st
@[simp] theorem nxG_ok : nxG (.ok ρ S) = .nx ρ S := rfl
@[simp] theorem sAsg_ap {gt : GD} : sAsg f gt ρ S = liftS ρ (f ρ S) fun d S1 => nxG (gt d ρ S1) := by
  unfold sAsg
  congr 1
@[simp] theorem sAug_ap {o : D → D → Sto → Rs D} : sAug k f o ρ S = liftS ρ (oRs (ρ[k]?.join) S) fun x _ => liftS ρ (f ρ S) fun y S1 => liftS ρ (o x y S1) fun z S2 => .nx (ρ.set k (some z)) S2 := by
  unfold sAug
  cases h : ρ[k]? with
  | none => rfl
  | some o => cases o <;> rfl
@[simp] theorem gNm_ap : gNm k x ρ S = .ok (ρ.set k (some x)) S := rfl
@[simp] theorem sFor_ap {fi : Env → Sto → Rs IDt} {gt : GD} : sFor fi gt s ρ S = liftS ρ (fi ρ S) fun d S1 => forL gt s d.2 d.1 ρ S1 := rfl
@[simp] theorem iRgA_ap : iRgA ga ρ S = (ga ρ S).bind fun ds S1 => match ds with
  | [.p (.int j)] => if big62 j = true then .ok (rngL 0 j.toNat, (fun _ => True : Sto → Prop)) S1 else .st
  | _ => .st := rfl
@[simp] theorem iRgB_ap : iRgB ga ρ S = (ga ρ S).bind fun ds S1 => match ds with
  | [.p (.int i), .p (.int j)] => if big62 i = true ∧ big62 j = true then .ok (rngL i (j - i).toNat, (fun _ => True : Sto → Prop)) S1 else .st
  | _ => .st := rfl
@[simp] theorem iTpl_ap : iTpl f ρ S = (f ρ S).bind fun d S1 => match d with
  | .p (.tuple l) => .ok (l.map .p, (fun _ => True : Sto → Prop)) S1
  | _ => .st := rfl
@[simp] theorem iLst_ap : iLst f ρ S = (f ρ S).bind fun d S1 => match lItems S1 d with
  | some l => .ok (l, chkOf d l) S1
  | none => .st := rfl
@[simp] theorem restD_p' : restD (.p d) S = some (d, S) := rfl
@[simp] theorem restAll_nil : restAll [] S = some ([], S) := rfl
@[simp] theorem restAll_cons : restAll (x :: ds) S = (restD x S).bind fun r => (restAll ds r.2).map fun q => (r.1 :: q.1, q.2) := by
  rw [restAll]
  cases h : restD x S <;> rfl
/-! values -/
@[simp] theorem gAdd_int : gAdd (.p (.int i)) (.p (.int j)) S = .ok (.int (i + j)) S := rfl
@[simp] theorem gAdd_str {a b : Str} : gAdd (.p (.str a)) (.p (.str b)) S = if a.length + b.length ≤ sizeLine then .ok (.str (a ++ b)) S else .st := rfl
@[simp] theorem gAdd_tup : gAdd (.p (.tuple l)) (.p (.tuple l')) S = if l.length + l'.length ≤ sizeLine then .ok (.tup (l ++ l')) S else .st := rfl
@[simp] theorem gAdd_lst : gAdd (.p (.list l)) (.p (.list l')) S = if l.length + l'.length ≤ sizeLine then .ok (.lst (l ++ l')) S else .st := rfl
@[simp] theorem gAddI_int : gAddI (.p (.int i)) (.p (.int j)) S = .ok (.int (i + j)) S := rfl
@[simp] theorem gSub_int : gSub (.p (.int i)) (.p (.int j)) S = .ok (.int (i - j)) S := rfl
@[simp] theorem gMul_int : gMul (.p (.int i)) (.p (.int j)) S = if i.natAbs < 2 ^ 64 ∨ j.natAbs < 2 ^ 64 then .ok (.int (i * j)) S else .st := by
  simp [gMul, gInt]
@[simp] theorem gMod_int : gMod (.p (.int i)) (.p (.int j)) S = if 0 < j then .ok (.int (i % j)) S else .st := by simp [gMod, gInt]
@[simp] theorem gFdv_int : gFdv (.p (.int i)) (.p (.int j)) S = if 0 < j ∧ j < 1073741824 then .ok (.int (i / j)) S else .st := by simp [gFdv, gInt]
@[simp] theorem gPow_int : gPow (.p (.int i)) (.p (.int j)) S = if 0 ≤ j ∧ j ≤ 1000000 ∧ i.natAbs < 2 ^ 64 then .ok (.int (i ^ j.toNat)) S else .st := by simp [gPow, gInt]
@[simp] theorem gLt_int : gLt (.p (.int i)) (.p (.int j)) S = .ok (.bl (decide (i < j))) S := rfl
@[simp] theorem gLe_int : gLe (.p (.int i)) (.p (.int j)) S = .ok (.bl (decide (i ≤ j))) S := rfl
@[simp] theorem gGt_int : gGt (.p (.int i)) (.p (.int j)) S = .ok (.bl (decide (j < i))) S := rfl
@[simp] theorem gGe_int : gGe (.p (.int i)) (.p (.int j)) S = .ok (.bl (decide (j ≤ i))) S := rfl
theorem gEq_pp {neg : Bool} : gEq neg (.p d) (.p e) S = if scalD d e = true then .ok (.bl (neg ^^ PyData.eqv d e)) S else if SeqAt.shaped d = true ∧ SeqAt.shaped e = true then .ok (.bl (neg ^^ PyData.eqv d e)) S else .st := rfl
@[simp] theorem gEq_int {neg : Bool} : gEq neg (.p (.int i)) (.p (.int j)) S = .ok (.bl (neg ^^ (i == j))) S := by rw [gEq_pp]; rfl
@[simp] theorem gEq_str {neg : Bool} {a b : Str} : gEq neg (.p (.str a)) (.p (.str b)) S = .ok (.bl (neg ^^ (a == b))) S := by rw [gEq_pp]; rfl
@[simp] theorem gEq_bl {neg a b : Bool} : gEq neg (.p (.bool a)) (.p (.bool b)) S = .ok (.bl (neg ^^ (a == b))) S := by rw [gEq_pp]; rfl
/-- an item at a place -/
@[simp] theorem atI_nat' {α : Type} (l : List α) (k : Nat) : atI l (k : Int) = l[k]? := by
  unfold atI ixN
  rw [if_pos (by omega)]
  by_cases h : (k : Int) < (l.length : Int)
  · rw [if_pos h]; simp
  · rw [if_neg h, List.getElem?_eq_none (by omega)]; rfl
@[simp] theorem atI_0 {α : Type} (l : List α) : atI l 0 = l[0]? := atI_nat' l 0
@[simp] theorem atI_1 {α : Type} (l : List α) : atI l 1 = l[1]? := atI_nat' l 1
@[simp] theorem atI_2 {α : Type} (l : List α) : atI l 2 = l[2]? := atI_nat' l 2
@[simp] theorem atI_3 {α : Type} (l : List α) : atI l 3 = l[3]? := atI_nat' l 3
@[simp] theorem atI_4 {α : Type} (l : List α) : atI l 4 = l[4]? := atI_nat' l 4
@[simp] theorem atI_5 {α : Type} (l : List α) : atI l 5 = l[5]? := atI_nat' l 5
@[simp] theorem gIx_tup : gIx (.p (.tuple l)) (.p (.int i)) S = oRs ((atI l i).map .p) S := by
  unfold gIx
  dsimp only
  cases atI l i <;> rfl
@[simp] theorem gIx_lst : gIx (.p (.list l)) (.p (.int i)) S = oRs ((atI l i).map .p) S := by
  unfold gIx
  simp only [lItems, atI_map]
  cases atI l i <;> rfl
@[simp] theorem gIx_scr {ns : List Int} : gIx (.scr ns) (.p (.int i)) S = oRs ((atI ns i).map .int) S := by
  unfold gIx
  simp only [lItems, atI_map]
  cases atI ns i <;> rfl
@[simp] theorem gIx_str {z : Str} : gIx (.p (.str z)) (.p (.int i)) S = if z.length ≤ sizeLine then oRs ((atI z.cps.toList i).map fun c => .str ⟨#[c]⟩) S else .st := by
  unfold gIx
  dsimp only
  split
  · cases atI z.cps.toList i <;> rfl
  · rfl
/-- what stands at n -/
def obL (o : Option O) : Option (List D) := match o with
  | some (.lst l) => some l
  | some (.fz l) => some (l.map .p)
  | _ => none
@[simp] theorem obL_lst : obL (some (.lst ds)) = some ds := rfl
@[simp] theorem obL_fz : obL (some (.fz l)) = some (l.map .p) := rfl
theorem lItems_ob : lItems S (.ob n) = obL S[n]? := by
  unfold lItems obL
  rfl
@[simp] theorem gIx_ob : gIx (.ob n) (.p (.int i)) S = oRs ((obL S[n]?).bind fun l => atI l i) S := by
  unfold gIx
  dsimp only
  rw [lItems_ob]
  cases obL S[n]? with
  | none => rfl
  | some l => simp only [Option.bind_some]; cases atI l i <;> rfl
@[simp] theorem gLen_tup : gLen [.p (.tuple l)] S = .ok (.int l.length) S := rfl
@[simp] theorem gLen_lst : gLen [.p (.list l)] S = .ok (.int l.length) S := by
  unfold gLen
  simp [lItems]
@[simp] theorem gLen_scr {ns : List Int} : gLen [.scr ns] S = .ok (.int ns.length) S := by
  unfold gLen
  simp [lItems]
@[simp] theorem gLen_ob : gLen [.ob n] S = oRs ((obL S[n]?).map fun l => .int (l.length : Nat)) S := by
  unfold gLen
  simp only [lItems_ob]
  cases obL S[n]? <;> rfl
@[simp] theorem gLen_str {z : Str} : gLen [.p (.str z)] S = if z.length ≤ sizeLine then .ok (.int z.length) S else .st := rfl
@[simp] theorem gToInt_int : gToInt [.p (.int i)] S = .ok (.int i) S := rfl
@[simp] theorem gToInt_bl {b : Bool} : gToInt [.p (.bool b)] S = .ok (.int (if b then 1 else 0)) S := rfl
@[simp] theorem gToStr_int : gToStr [.p (.int i)] S = if i.natAbs.log2 < 1920 then .ok (.str (toString i)) S else .st := rfl
@[simp] theorem truD_bl {b : Bool} : truD S (.p (.bool b)) = some b := rfl
@[simp] theorem gMin2_int : gMin2 [.p (.int i), .p (.int j)] S = .ok (.int (if j < i then j else i)) S := rfl
@[simp] theorem gMax2_int : gMax2 [.p (.int i), .p (.int j)] S = .ok (.int (if j > i then j else i)) S := rfl
@[simp] theorem isLst_ob : isLst S (.ob n) = (obL S[n]?).isSome := by
  show (match S[n]? with | some (.lst _) => true | some (.fz _) => true | _ => false) = _
  cases S[n]? with
  | none => rfl
  | some o => cases o <;> rfl
@[simp] theorem isLst_lst : isLst S (.p (.list l)) = true := rfl
def obO (o : Option O) : Option (List D) := match o with
  | some (.lst l) => some l
  | _ => none
@[simp] theorem obO_lst : obO (some (.lst ds)) = some ds := rfl
@[simp] theorem oLst_ob : oLst S (.ob n) = (obO S[n]?).map fun l => (n, l) := by
  unfold obO
  show (match S[n]? with | some (.lst l) => some (n, l) | _ => none) = _
  cases S[n]? with
  | none => rfl
  | some o => cases o <;> rfl
def appO (d : PyData) (S : Sto) (o : Option (Nat × List D)) : Rs D := match o with
  | some (n, l) => if l.length < sizeLine then .ok .non (S.set n (.lst (l ++ [.p d]))) else .st
  | none => .st
@[simp] theorem appO_some : appO d S (some (n, ds)) = if ds.length < sizeLine then .ok .non (S.set n (.lst (ds ++ [.p d]))) else .st := rfl
@[simp] theorem gApp_ap : gApp x [D.p d] S = appO d S (oLst S x) := by
  show (match oLst S x with | some (n, l) => if l.length < sizeLine then Rs.ok D.non (S.set n (.lst (l ++ [D.p d]))) else Rs.st | none => Rs.st) = _
  unfold appO
  cases oLst S x <;> rfl
@[simp] theorem gSetL_ap {fo fi : ED} : gSetL fo fi x ρ S = (fo ρ S).bind fun o S1 => (fi ρ S1).bind fun i S2 => okE ρ (setL x o i S2) := rfl
@[simp] theorem okE_some : okE ρ (some S) = .ok ρ S := rfl
@[simp] theorem setL_ob {n : Nat} {i : Int} : setL x (D.ob n) (D.p (PyData.int i)) S = (obO S[n]?).bind fun l => (ixN l.length i).map fun j => S.set n (.lst (l.set j x)) := by
  show (match S[n]? with | some (.lst l) => (match ixN l.length i with | some j => some (S.set n (.lst (l.set j x))) | none => none) | _ => none) = _
  cases S[n]? with
  | none => rfl
  | some o =>
    cases o with
    | lst l =>
      show (match ixN l.length i with | some j => some (S.set n (.lst (l.set j x))) | none => none) = (ixN l.length i).map _
      cases ixN l.length i <;> rfl
    | fz _ => rfl
    | dic _ => rfl
theorem ixN_nat (n k : Nat) : ixN n (k : Int) = if k < n then some k else none := by
  unfold ixN
  rw [if_pos (by omega)]
  by_cases h : (k : Int) < (n : Int)
  · rw [if_pos h, if_pos (by omega)]; rfl
  · rw [if_neg h, if_neg (by omega)]
@[simp] theorem ixN_0 (n : Nat) : ixN n 0 = if 0 < n then some 0 else none := ixN_nat n 0
@[simp] theorem ixN_1 (n : Nat) : ixN n 1 = if 1 < n then some 1 else none := ixN_nat n 1
@[simp] theorem sizeLine_val : sizeLine = 16777216 := sizeLine_eq
end
end DL
namespace DL
open PySem PySem.Spec PyProof.Rows L2
/-! ### loops, by an invariant -/
section
variable {g : GD} {body : SD} {chk : Sto → Prop}
theorem forL_inv (I : Nat → Env → Sto → Prop) : ∀ (ds : List D) (k : Nat) (ρ : Env) (S : Sto), (∀ i d ρ S, ds[i]? = some d → I (k + i) ρ S → ∃ ρ1 S1, g d ρ S = .ok ρ1 S1 ∧ ∃ ρ2 S2, (body ρ1 S1 = .nx ρ2 S2 ∨ body ρ1 S1 = .ct ρ2 S2) ∧ chk S2 ∧ I (k + i + 1) ρ2 S2) → I k ρ S →
    ∃ ρ' S', forL g body chk ds ρ S = .nx ρ' S' ∧ I (k + ds.length) ρ' S'
  | [], k, ρ, S, _, h => ⟨ρ, S, rfl, h⟩
  | d :: ds, k, ρ, S, st, h => by
    obtain ⟨ρ1, S1, e1, ρ2, S2, e2, c, h2⟩ := st 0 d ρ S rfl h
    obtain ⟨ρ', S', e3, h3⟩ := forL_inv I ds (k + 1) ρ2 S2 (fun i d ρ S e hh => by
      have := st (i + 1) d ρ S (by simpa using e) (by rw [show k + (i + 1) = k + 1 + i by omega]; exact hh)
      rw [show k + (i + 1) + 1 = k + 1 + i + 1 by omega] at this
      exact this) h2
    refine ⟨ρ', S', ?_, by rw [List.length_cons, show k + (ds.length + 1) = k + 1 + ds.length by omega]; exact h3⟩
    unfold forL
    rw [e1]
    rcases e2 with e2 | e2
    · simp only [e2, if_pos c]; exact e3
    · simp only [e2, if_pos c]; exact e3
/-- .. that may hand something back -/
theorem forL_ret (I : Nat → Env → Sto → Prop) (R : D → Sto → Prop) : ∀ (ds : List D) (k : Nat) (ρ : Env) (S : Sto), (∀ i d ρ S, ds[i]? = some d → I (k + i) ρ S → ∃ ρ1 S1, g d ρ S = .ok ρ1 S1 ∧ ((∃ ρ2 S2, (body ρ1 S1 = .nx ρ2 S2 ∨ body ρ1 S1 = .ct ρ2 S2) ∧ chk S2 ∧ I (k + i + 1) ρ2 S2) ∨ ∃ d' S', body ρ1 S1 = .rt d' S' ∧ R d' S')) → I k ρ S →
    (∃ ρ' S', forL g body chk ds ρ S = .nx ρ' S' ∧ I (k + ds.length) ρ' S') ∨ ∃ d' S', forL g body chk ds ρ S = .rt d' S' ∧ R d' S'
  | [], k, ρ, S, _, h => .inl ⟨ρ, S, rfl, h⟩
  | d :: ds, k, ρ, S, st, h => by
    obtain ⟨ρ1, S1, e1, hh⟩ := st 0 d ρ S rfl h
    rcases hh with ⟨ρ2, S2, e2, c, h2⟩ | ⟨d', S', e2, r⟩
    · have key := forL_ret I R ds (k + 1) ρ2 S2 (fun i d ρ S e hh => by
        have := st (i + 1) d ρ S (by simpa using e) (by rw [show k + (i + 1) = k + 1 + i by omega]; exact hh)
        rw [show k + (i + 1) + 1 = k + 1 + i + 1 by omega] at this
        exact this) h2
      have eq : forL g body chk (d :: ds) ρ S = forL g body chk ds ρ2 S2 := by
        rw [forL, e1]
        rcases e2 with e2 | e2
        · simp only [e2, if_pos c]
        · simp only [e2, if_pos c]
      rw [eq, List.length_cons, show k + (ds.length + 1) = k + 1 + ds.length by omega]
      exact key
    · refine .inr ⟨d', S', ?_, r⟩
      rw [forL, e1]
      simp only [e2]
theorem lcL_inv {c : BD} {f : ED} {ρ0 : Env} (I : Nat → List PyData → Sto → Prop) : ∀ (ds : List D) (k : Nat) (acc : List PyData) (S : Sto),
    (∀ i d acc S, ds[i]? = some d → I (k + i) acc S → ∃ ρ1 S1, g d ρ0 S = .ok ρ1 S1 ∧ ∃ b S2, c ρ1 S1 = .ok b S2 ∧ ((b = false ∧ chk S2 ∧ I (k + i + 1) acc S2) ∨ (b = true ∧ ∃ p S3, f ρ1 S2 = .ok (.p p) S3 ∧ acc.length < sizeLine ∧ chk S3 ∧ I (k + i + 1) (acc ++ [p]) S3))) → I k acc S →
    ∃ acc' S', lcL g c f chk ρ0 ds acc S = some (acc', S') ∧ I (k + ds.length) acc' S'
  | [], k, acc, S, _, h => ⟨acc, S, rfl, h⟩
  | d :: ds, k, acc, S, st, h => by
    obtain ⟨ρ1, S1, e1, b, S2, e2, hh⟩ := st 0 d acc S rfl h
    have go : ∀ acc2 S3, I (k + 1) acc2 S3 → ∃ acc' S', lcL g c f chk ρ0 ds acc2 S3 = some (acc', S') ∧ I (k + (ds.length + 1)) acc' S' := fun acc2 S3 h3 => by
      have key := lcL_inv I ds (k + 1) acc2 S3 (fun i d acc S e hh => by
        have := st (i + 1) d acc S (by simpa using e) (by rw [show k + (i + 1) = k + 1 + i by omega]; exact hh)
        rw [show k + (i + 1) + 1 = k + 1 + i + 1 by omega] at this
        exact this) h3
      rw [show k + (ds.length + 1) = k + 1 + ds.length by omega]
      exact key
    rcases hh with ⟨rfl, ck, h2⟩ | ⟨rfl, p, S3, e3, hl, ck, h2⟩
    · obtain ⟨acc', S', e4, h4⟩ := go _ _ h2
      refine ⟨acc', S', ?_, h4⟩
      rw [lcL, e1]
      simp only [e2, if_pos ck]
      exact e4
    · obtain ⟨acc', S', e4, h4⟩ := go _ _ h2
      refine ⟨acc', S', ?_, h4⟩
      rw [lcL, e1]
      simp only [e2, e3, restD_p', if_pos (And.intro hl ck)]
      exact e4
theorem rngL_get {lo : Int} {n i : Nat} {d : D} (e : (rngL lo n)[i]? = some d) : i < n ∧ d = .int (lo + i) := by
  unfold rngL at e
  rw [List.getElem?_map] at e
  by_cases h : i < n
  · rw [List.getElem?_range h] at e
    cases e
    exact ⟨h, rfl⟩
  · rw [List.getElem?_eq_none (by simpa using h)] at e
    cases e
@[simp] theorem rngL_length {lo : Int} {n : Nat} : (rngL lo n).length = n := by simp [rngL]
theorem big62_of {i : Int} (h1 : -4611686018427387904 ≤ i) (h2 : i < 4611686018427387904) : big62 i = true := by
  unfold big62
  exact @decide_eq_true _ (Classical.propDecidable _) ⟨h1, h2⟩
theorem big62_nat {n : Nat} (h : n < 4611686018427387904) : big62 (n : Int) = true := big62_of (by omega) (by omega)
end
end DL

namespace DL
open PySem PySem.Spec PyProof.Rows L2
/-! ### raising, trying -/
section
variable {P : Program} {w : World} {K : PySem.W.Frag} {mg : Str → Option Value} {base : Heap}
/-- a def that may raise; what it raises has no context -/
structure FnN (P : Program) (w : World) (K : PySem.W.Frag) (mg : Str → Option Value) (base : Heap) (k : Nat) (x : Str) (n : Nat) (g : FD) : Prop where
  ex : ∃ (f : Addr) (fd : FuncData) (ps : List Str), ps.length = n ∧ mg x = some (.ref f) ∧ PySem.W.keepIn K (.ref f) = true ∧ Binds K fd ps [] ∧ FnOk P w K mg base (L2N.CX P w) k f fd ps (spOf K mg n g)
theorem Fun.dlN {x : Str} {st : Stmt} {f : Addr} {fd : FuncData} {N ps : List Str} {k : Nat} {F : SD} {g : FD} (Fu : Fun K x x st f fd) (Sc : FnScope N ps (defScope st)) (gm : mg x = some (.ref f)) (bd : Binds K fd ps [])
    (body : ∀ (cdv : Value) (A : Around) (outer : List PySem.Env) (s : Shared) (H : Hp) (E : XK), Room k (A.deeper (envOfC x (defScope st) s.heap.objs.size f cdv)) →
      DSs (cxOf (L2N.CX P w) P w K mg base N x (defScope st) f cdv A outer s H E) (fun cls d _ H => E cls d H) (defBody st) F)
    (hg : ∀ ds S, ds.length = ps.length → ClS S.length S → (∀ d ∈ ds, ClD S.length d) → Dn S (F (start0 N ds) S) (g ds S)) : FnN P w K mg base (k + 1) x ps.length g := by
  have fok : FnOk P w K mg base (L2N.CX P w) (k + 1) f fd ps (spOf K mg ps.length g) := by
    obtain ⟨oc, od, kV, doc, pm, an, cdv, ct, osl, rfl, lk, hcd⟩ := Fu.ex
    refine fn_of lk hcd Sc (fun vs H Q E h => h.1) fun A outer s H vs Q E hr h => ?_
    obtain ⟨hl, κ, ds, S, m, rl, rd, po⟩ := h
    obtain ⟨t, pt, it⟩ := body cdv A outer s H E hr
    refine ⟨t, pt, it κ (start0 N ds) S (L2.start N vs) H m _ rl (RE_start rd) ?_⟩
    refine post_of (E := E) rl (hg ds S ((pairLen rd).trans hl) rl.cl (fun d hd => ?_)) po (fun _ _ _ _ z => z)
    have := pairAll (F := RD ⟨K, κ⟩ m S H) (P := ClD m.length) (fun _ _ q => q.cl) rd d hd
    rw [rl.len] at this
    exact this
  exact ⟨f, fd, ps, rfl, gm, Fu.kp, bd, fok⟩
end
section
variable {X : Cx} {W : WX} {m m1 : List Addr} {S S1 : Sto} {H H1 : Hp} {σ : St} {ρ : Env} {κ : Addr → Prop}
variable {a b c e o : Expr} {pos : Pos} {fa fb fe fo : ED} {es : List Expr} {ga : AD} {ss : List Stmt}
theorem de_callN {k j n : Nat} {x : Str} {p : Pos} {g : FD} (F : FnN X.prog X.w X.K X.mg X.base k x n g) (tk : L2N.Takes X W) (hr : Room j X.A) (hk : k ≤ j) (hg : Gl X x) (ha : DA X W (e :: es) ga)
    (hd : (x == ("__debug__" : Str)) = false := by decide) (hs : starEach (e :: es) X.env = (false, eval e X.env) :: starEach es X.env := by rfl)
    (hp : (backTo pos (starEach es X.env)).any (·.1) = false := by rfl) : DE X W (.Call (.Name x p) (e :: es) [] pos) (eCallX n g ga) := by
  obtain ⟨f, fd, ps, hl, gm, kp, bd, ok⟩ := F
  obtain ⟨t, q, i⟩ := ha
  refine ⟨_, pe_callS (E := WE W) ok (hr.mono hk) hg gm kp bd (fun σ => L2N.passAt tk σ) q hd hs hp, fun κ ρ S σ H m Q rl re h => ?_⟩
  refine i.seq rl re h fun d S1 v H1 m1 x1 rl1 re1 r1 h1 => ?_
  split at h1
  · rename_i hn
    exact ⟨by rw [← pairLen r1]; exact hn, κ, d, S1, m1, rl1, r1, PostF.of h1⟩
  · exact h1.elim
/-- what an expression makes that is raised -/
structure DM (X : Cx) (e : Expr) (f : Env → Sto → Rs Xc) : Prop where
  ex : ∃ t : St → Hp → XK → Prop, L2N.PMk X e t ∧ ∀ κ ρ S σ H m (Q : XK), Rl (KX X κ) m S H → RE (KX X κ) m S H ρ σ →
    (match f ρ S with | .ok x S' => ∀ H' m' c dd, Nx (KX X κ) m S H m' S' H' → Rl (KX X κ) m' S' H' → RX X.mg (KX X κ) (lv (KX X κ) m' S') H' x c dd → Q c dd H' | _ => False) → t σ H Q
def mOwn (x : Str) : Env → Sto → Rs Xc := fun _ S => .ok ⟨x, []⟩ S
/-- X(), an own class without a making of its own -/
theorem pmk_own_0 {C : Addr} {bmB : List Value} {B newId initId : String} {x : Str} {p : Pos} (F : ExcBaseFacts B newId initId bmB) (q : PySem.W.excIn X.K C bmB newId = true) (gC : X.mg x = some (.ref C))
    (kC : PySem.W.keepIn X.K (.ref C) = true) (r : Raises X (.ref C)) (hg : Gl X x) (hdb : (x == ("__debug__" : Str)) = false := by decide) : L2N.PMk X (.Call (.Name x p) [] [] pos) (fun _ H Q => Q (.ref C) none H) := by
  intro pins s σ H Q I q1
  refine wpAny_Call_Name_kw (ld_glob I hg gC ?_ hdb)
  refine PySem.W.callWith_K0 I.kIn kC ?_
  obtain ⟨bm, N, nm, qn, bs, hdct, sn, sub, ab, col, dd, k0, k1, k2, k3, k5, mN, hC, hN, hni, T⟩ := exc_obj I.kIn q
  exact wpAny_call_exc_subT F T hC hN hni (fun h' e hm => L2N.mk_of I hm r q1 (I.hok.gone hm.new)) (Nat.zero_le _)
theorem dm_own {C : Addr} {bmB : List Value} {B newId initId : String} {x : Str} {p : Pos} (F : ExcBaseFacts B newId initId bmB) (q : PySem.W.excIn X.K C bmB newId = true) (gC : X.mg x = some (.ref C))
    (kC : PySem.W.keepIn X.K (.ref C) = true) (r : Raises X (.ref C)) (hg : Gl X x) (hdb : (x == ("__debug__" : Str)) = false := by decide) : DM X (.Call (.Name x p) [] [] pos) (mOwn x) :=
  ⟨_, pmk_own_0 F q gC kC r hg hdb, fun κ ρ S σ H m Q rl re h => h H m (.ref C) none .refl rl ⟨gC, .inl ⟨rfl, rfl⟩⟩⟩
def sRaise (f : Env → Sto → Rs Xc) : SD := fun ρ S => match f ρ S with
  | .ok x S1 => .ex x ρ S1
  | _ => .st
theorem ds_raise {f : Env → Sto → Rs Xc} (hc : X.calm = true) (tk : L2N.Takes X W) (he : DM X e f) : DS X W (.Raise (some e) none pos) (sRaise f) := by
  obtain ⟨t, p, i⟩ := he
  refine ⟨_, L2N.ps_raise hc tk p, fun κ ρ S σ H m Dn rl re h => ?_⟩
  refine i κ ρ S σ H m _ rl re ?_
  unfold sRaise at h
  cases e1 : f ρ S with
  | st => rw [e1] at h; exact h.elim
  | ex _ _ => rw [e1] at h; exact h.elim
  | ok x S1 =>
    rw [e1] at h
    exact fun H' m' c dd nx rl' rx => h σ H' m' c dd nx rl' (re.nx nx) rx
/-- what raises nothing -/
def noX (f : SD) : SD := fun ρ S => match f ρ S with
  | .ex _ _ _ => .st
  | o => o
theorem dss_nox {f : SD} (h : DSs X.nox (fun _ _ _ _ => False) ss f) : DSs X W ss (noX f) := by
  obtain ⟨t, p, i⟩ := h
  refine ⟨t, p.nox, fun κ ρ S σ H m Dn rl re h => i κ ρ S σ H m Dn rl re ?_⟩
  have h : PostS X κ W m S H (noX f ρ S) Dn := h
  unfold noX at h
  cases e1 : f ρ S with
  | ex _ _ _ => rw [e1] at h; exact h.elim
  | st => rw [e1] at h; exact h.elim
  | nx _ _ => rw [e1] at h; exact h
  | bk _ _ => rw [e1] at h; exact h
  | ct _ _ => rw [e1] at h; exact h
  | rt _ _ => rw [e1] at h; exact h
theorem ds_nox {s1 : Stmt} {f : SD} (h : DS X.nox (fun _ _ _ _ => False) s1 f) : DS X W s1 (noX f) := by
  obtain ⟨t, p, i⟩ := h
  refine ⟨t, ⟨fun pins s σ H D I hw => wpAny_mono (p.run pins s σ H D (I.wish _) hw) (fun _ _ q => q.unwish) fun _ _ z => False.elim z⟩, fun κ ρ S σ H m Dn rl re h => i κ ρ S σ H m Dn rl re ?_⟩
  have h : PostS X κ W m S H (noX f ρ S) Dn := h
  unfold noX at h
  cases e1 : f ρ S with
  | ex _ _ _ => rw [e1] at h; exact h.elim
  | st => rw [e1] at h; exact h.elim
  | nx _ _ => rw [e1] at h; exact h
  | bk _ _ => rw [e1] at h; exact h
  | ct _ _ => rw [e1] at h; exact h
  | rt _ _ => rw [e1] at h; exact h
/-- a suite's end: the name is gone -/
def gone (i : Nat) : Out → Out
  | .nx ρ S => .nx (ρ.set i none) S
  | .bk ρ S => .bk (ρ.set i none) S
  | .ct ρ S => .ct (ρ.set i none) S
  | .rt d S => .rt d S
  | _ => .st
open Classical in
noncomputable def common (q : Option Addr → Prop) (F : Addr → Option Addr → Out) : Out := if h : ∃ o, ∀ a d, q d → F a d = o then h.choose else .st
theorem common_eq {q : Option Addr → Prop} {F : Addr → Option Addr → Out} {o : Out} (h : ∀ a d, q d → F a d = o) (ne : ∃ d, q d) : common q F = o := by
  have e : ∃ o, ∀ a d, q d → F a d = o := ⟨o, h⟩
  unfold common
  rw [dif_pos e]
  obtain ⟨d, hd⟩ := ne
  exact (e.choose_spec 0 d hd).symm.trans (h 0 d hd)
theorem common_at {q : Option Addr → Prop} {F : Addr → Option Addr → Out} {R : Out → Prop} (hst : ¬ R .st) (h : R (common q F)) {a : Addr} {d : Option Addr} (hd : q d) : R (F a d) := by
  unfold common at h
  by_cases e : ∃ o, ∀ a d, q d → F a d = o
  · rw [dif_pos e] at h
    rw [e.choose_spec a d hd]
    exact h
  · rw [dif_neg e] at h
    exact absurd h hst
noncomputable def sTry (sub : Str → Bool → Option Bool) (i : Nat) (fb : SD) (fs : Str → Addr → Option Addr → SD) : SD := fun ρ S => match fb ρ S with
  | .ex x ρ1 S1 => (match sub x.c (!x.fs.isEmpty) with
    | some true => common (fun d => d.isSome = !x.fs.isEmpty) fun a d => gone i (fs x.c a d (ρ1.set i (some (.xc a d x.fs))) S1)
    | some false => .ex x ρ1 S1
    | none => .st)
  | o => o
/-- a suite's term, by what it does for the classes that are known -/
def canT (Y : Cx) (sub : Str → Bool → Option Bool) (hb : Bool) (fs : Str → SD) (cls : Value) : TS := fun D σ H => ∃ (cn : Str) (κ : Addr → Prop) (ρ : Env) (S : Sto) (m : List Addr), sub cn hb = some true ∧ Y.mg cn = some cls ∧ Rl (KX Y κ) m S H ∧ RE (KX Y κ) m S H ρ σ ∧
  PostS Y κ (fun _ _ _ _ => False) m S H (fs cn ρ S) D
theorem ds_try_as {body suite : List Stmt} {b₀ : Stmt} {np pos' : Pos} {i : Nat} {x n : Str} {c : Value} {sub : Str → Bool → Option Bool} {fb : SD} {fs : Str → Addr → Option Addr → SD}
    (hs : X.stack = X.env :: X.outer) (hf : X.env.frame = some X.env.locals) (hN : X.N.Nodup) (hi : X.N[i]? = some n) (hln : X.env.kindOf n = some .local) (hc : Names X x c) (tk : L2N.Takes X W)
    (hsub : ∀ cn hb b cls, sub cn hb = some b → X.mg cn = some cls → PySem.W.exmOne X.K cls c = some b)
    (hb : ∀ (W : WX) (pn : List (Addr × Obj)) (xe : Value → Shared → Prop), L2N.Takes (X.tr pn xe) W → PassesOwn (model X.prog X.w) X.A X.env xe → DSs (X.tr pn xe) W body fb)
    (hsu : ∀ (cn : Str) (cls : Value) (a : Addr) (oe : Obj) (d : Option Addr) (pn : List (Addr × Obj)), sub cn d.isSome = some true → X.mg cn = some cls → L2N.Zn cls d oe → (∃ vs, oe.data = .fields vs) → DSs (X.suite a ((a, oe) :: pn)) (fun _ _ _ _ => False) (b₀ :: suite) (fs cn a d)) :
    DS X W (.Try body [.ExceptHandler (some (.Name x np)) (some n) (b₀ :: suite) pos'] [] [] pos) (sTry sub i fb fs) := by
  have hb' : ∀ (W : WX) (pn : List (Addr × Obj)) (xe : Value → Shared → Prop), L2N.Takes (X.tr pn xe) W → PassesOwn (model X.prog X.w) X.A X.env xe → PSs (X.tr pn xe) body (fun D σ H => ∃ (κ : Addr → Prop) (ρ : Env) (S : Sto) (m : List Addr), Rl (KX X κ) m S H ∧ RE (KX X κ) m S H ρ σ ∧ PostS X κ W m S H (fb ρ S) D) := by
    intro W pn xe t ps
    obtain ⟨t, p, im⟩ := hb W pn xe t ps
    exact ⟨fun pins s σ H D I ⟨κ, ρ, S, m, rl, re, h⟩ => p.run pins s σ H D I (im κ ρ S σ H m D rl re h)⟩
  have hsu' : ∀ (a : Addr) (oe : Obj) (cls : Value) (d : Option Addr) (pn : List (Addr × Obj)), L2N.Zn cls d oe → (∃ vs, oe.data = .fields vs) → PSs (X.suite a ((a, oe) :: pn)) (b₀ :: suite) (canT X sub d.isSome (fun cn => fs cn a d) cls) := by
    intro a oe cls d pn hz hfl
    refine ⟨fun pins s σ H D I hw => ?_⟩
    obtain ⟨cn, κ, ρ, S, m, e1, e2, rl, re, h⟩ := hw
    obtain ⟨t, p, im⟩ := hsu cn cls a oe d pn e1 e2 hz hfl
    exact p.run pins s σ H D I (im κ ρ S σ H m D rl re h)
  refine ⟨_, L2N.ps_try_as hs hf hN hi hln hc tk hb' hsu', fun κ ρ S σ H m Dn rl re h => ⟨κ, ρ, S, m, rl, re, ?_⟩⟩
  have h : PostS X κ W m S H (sTry sub i fb fs ρ S) Dn := h
  unfold sTry at h
  cases e1 : fb ρ S with
  | st => rw [e1] at h; exact h.elim
  | nx _ _ => rw [e1] at h; exact h
  | bk _ _ => rw [e1] at h; exact h
  | ct _ _ => rw [e1] at h; exact h
  | rt _ _ => rw [e1] at h; exact h
  | ex y ρ1 S1 =>
    rw [e1] at h
    simp only at h
    intro σ1 H1 m1 cls dd x1 rl1 re1 rx
    have hd : dd.isSome = !y.fs.isEmpty := by
      rcases rx.2 with ⟨q1, q2⟩ | ⟨d, q1, q2, q3⟩
      · rw [q1, q2]; rfl
      · rw [q1]
        cases e5 : y.fs with
        | nil => exact absurd e5 q2
        | cons _ _ => rfl
    cases e2 : sub y.c (!y.fs.isEmpty) with
    | none => rw [e2] at h; exact h.elim
    | some bb =>
      refine ⟨bb, hsub _ _ _ _ e2 rx.1, fun hbt a ha => ?_, fun hbf => ?_⟩
      · subst hbt
        rw [e2] at h
        have h2 := common_at (R := fun o => PostS X κ W m S H o Dn) (fun z => z) h (a := a) (d := dd) hd
        refine ⟨y.c, κ, ρ1.set i (some (.xc a dd y.fs)), S1, m1, by rw [hd]; exact e2, rx.1, rl1, pairSet re1 (fun d' e => ⟨_, rfl, ?_⟩), ?_⟩
        · cases e
          refine ⟨rfl, fun d e => ?_⟩
          rcases rx.2 with ⟨_, q2⟩ | ⟨d2, q1, _, q3⟩
          · rw [q2] at e; cases e
          · rw [q1] at e; cases e; exact q3
        · have h3 := PostS.nx x1 h2
          show PostS X κ (fun _ _ _ _ => False) m1 S1 H1 (fs y.c a dd (ρ1.set i (some (.xc a dd y.fs))) S1) _
          cases e3 : fs y.c a dd (ρ1.set i (some (.xc a dd y.fs))) S1 with
          | st => rw [e3] at h3; exact h3.elim
          | ex _ _ _ => rw [e3] at h3; exact h3.elim
          | nx ρ2 S2 => rw [e3] at h3; exact fun σ' H' m' x2 rl2 re2 => h3 _ H' m' x2 rl2 (pairSet re2 fun d' e => by cases e)
          | bk ρ2 S2 => rw [e3] at h3; exact fun σ' H' m' x2 rl2 re2 => h3 _ H' m' x2 rl2 (pairSet re2 fun d' e => by cases e)
          | ct ρ2 S2 => rw [e3] at h3; exact fun σ' H' m' x2 rl2 re2 => h3 _ H' m' x2 rl2 (pairSet re2 fun d' e => by cases e)
          | rt d2 S2 => rw [e3] at h3; exact h3
      · subst hbf
        rw [e2] at h
        exact h σ1 H1 m1 cls dd x1 rl1 re1 rx
end
end DL

namespace DL
open PySem PySem.Spec PyProof.Rows L2
/-! ### while an exception is handled -/
/-- the exception in hand stands at a, its class is called cn, its own dict is d -/
structure HX (X : Cx) (a : Addr) (cn : Str) (d : Option Addr) : Prop where
  ex : ∃ (oe : Obj) (cls : Value), (a, oe) ∈ X.pn ∧ L2H.Hot1 X.A (a, oe) ∧ X.mg cn = some cls ∧ L2N.Zn cls d oe
section
variable {X : Cx} {a0 : Addr} {cn : Str} {d0 : Option Addr}
theorem HX.hot (h : HX X a0 cn d0) : L2H.HotC X := by
  obtain ⟨oe, cls, h1, h2, _⟩ := h
  exact ⟨_, h2, h1⟩
theorem HX.of_suite {cls : Value} {oe : Obj} {pn : List (Addr × Obj)} (hm : X.mg cn = some cls) (hz : L2N.Zn cls d0 oe) (hf : ∃ vs, oe.data = .fields vs) : HX (X.suite a0 ((a0, oe) :: pn)) a0 cn d0 := by
  obtain ⟨vs, e⟩ := hf
  exact ⟨oe, cls, List.mem_cons_self, ⟨rfl, vs, e, hz.2.2 vs e⟩, hm, hz⟩
end
section
variable {P : Program} {w : World} {K : PySem.W.Frag} {mg : Str → Option Value} {base : Heap}
/-- the def called x does g where an exception of the class called cn is in hand -/
structure FnK (P : Program) (w : World) (K : PySem.W.Frag) (mg : Str → Option Value) (base : Heap) (k : Nat) (x : Str) (n : Nat) (cn : Str) (dk : Bool) (g : Addr → Option Addr → FD) : Prop where
  ex : ∃ (f : Addr) (fd : FuncData) (ps : List Str), ps.length = n ∧ mg x = some (.ref f) ∧ PySem.W.keepIn K (.ref f) = true ∧ Binds K fd ps [] ∧
    ∀ (A : Around) (outer : List PySem.Env) (s : Shared) (H : Hp) (ar : Args) (us : List Value) (vs : List V) (Q : VK) (E : XK) (a : Addr) (oe : Obj) (cls : Value) (d : Option Addr), d.isSome = dk →
      L2H.RoomH k A → L2H.Hot1 A (a, oe) → L2H.PinOk outer H s (a, oe) → mg cn = some cls → L2N.Zn cls d oe → Env0 P w K mg base A outer s H → BindsTo s fd ar (ps.zip us) → Vals vs us →
      spOf K mg n (fun ds S => noEx (g a d ds S)) vs H Q E → codeAny (model P w) A (.call (.ref f) ar) (CR CX0 outer P w H s Q E) s
abbrev hotX (P : Program) (w : World) (K : PySem.W.Frag) (mg : Str → Option Value) (base : Heap) (N : List Str) (x : Str) (st : Stmt) (f : Addr) (cdv : Value) (A : Around) (outer : List PySem.Env) (s : Shared) (H : Hp) (E : XK) (p : Addr × Obj) : Cx :=
  (L2H.cxH CX0 P w K mg base N x (defScope st) f cdv A outer s H E p).nox
theorem Fun.dlK {x : Str} {st : Stmt} {f : Addr} {fd : FuncData} {N ps : List Str} {k : Nat} {cn : Str} {dk : Bool} {F : Addr → Option Addr → SD} {g : Addr → Option Addr → FD} (Fu : Fun K x x st f fd) (Sc : FnScope N ps (defScope st)) (gm : mg x = some (.ref f)) (bd : Binds K fd ps [])
    (body : ∀ (cdv : Value) (A : Around) (outer : List PySem.Env) (s : Shared) (H : Hp) (E : XK) (p : Addr × Obj) (d : Option Addr), d.isSome = dk → L2H.RoomH k (A.deeper (envOfC x (defScope st) s.heap.objs.size f cdv)) → HX (hotX P w K mg base N x st f cdv A outer s H E p) p.1 cn d →
      DSs (hotX P w K mg base N x st f cdv A outer s H E p) (fun _ _ _ _ => False) (defBody st) (F p.1 d))
    (hg : ∀ a d ds S, ds.length = ps.length → ClS S.length S → (∀ d ∈ ds, ClD S.length d) → Dn S (F a d (start0 N ds) S) (g a d ds S)) : FnK P w K mg base (k + 1) x ps.length cn dk g := by
  refine ⟨f, fd, ps, rfl, gm, Fu.kp, bd, ?_⟩
  intro A outer s H ar us vs Q E a oe cls d hdk rm hot pin hm hz e0 hb r hsp
  obtain ⟨oc, od, kV, doc, pm, an, cdv, ct, osl, rfl, lk, hcd⟩ := Fu.ex
  have kin : K.In s.heap := e0.mod.kin.keeps fun b o e => (e0.bs b o e).1
  have lens : vs.length = ps.length := hsp.1
  have loc : ∀ y ∈ ps.zip us, (defScope st).names.lookup y.1 = some .local ∨ ((defScope st).names.lookup y.1 = some .cell ∧ ((cellsFrom (s.heap.objs.size + 1) (defScope st).names []).lookup y.1).isSome = true) := by
    rintro ⟨y, v⟩ hy
    rcases Sc.par y (List.of_mem_zip hy).1 with q | q
    · exact .inl q
    · exact .inr ⟨q, PySem.W.cellsFrom_some _ _ _ (.inl q)⟩
  refine codeAny_call_function rm.depth (kin _ _ lk) rfl Sc.co Sc.gen rfl (PySem.W.codeRec_of kin hcd) (hb _ _ _ _ ?_)
  refine wpAny_newFunctionEnv_cells Sc.kind loc fun en hen s1 ic => ?_
  subst hen
  refine ⟨(e0.mod.nolimit.keeps fun b o e => (e0.bs b o e).1).keeps ic.toInCall.keep, codeAny_func ?_⟩
  have J := L2H.inv_startH (E := E) (CX := CX0) (cd := cdv) Sc pin e0 lens r ic
  obtain ⟨t, pt, it⟩ := body cdv A outer s H E (a, oe) d hdk (rm.deeper _) ⟨oe, cls, List.mem_singleton.mpr rfl, hot, hm, hz⟩
  obtain ⟨hl, κ, ds, S, m, rl, rd, po⟩ := hsp
  have rdy := it κ (start0 N ds) S (L2.start N vs) H m { nx := fun _ H' => Q .non H', rt := Q } rl (RE_start rd) (by
    refine post_of (E := fun _ _ _ => False) rl (hg a d ds S ((pairLen rd).trans hl) rl.cl (fun d hd => ?_)) ?_ (fun _ _ _ _ z => z)
    · have := pairAll (F := RD ⟨K, κ⟩ m S H) (P := ClD m.length) (fun _ _ q => q.cl) rd d hd
      rw [rl.len] at this
      exact this
    · have po : PostF ⟨K, κ⟩ mg m S H (noEx (g a d ds S)) Q E := po
      cases e : g a d ds S with
      | st => rw [e] at po; exact po.elim
      | ok d S' => rw [e] at po; exact po
      | ex y S' => rw [e] at po; exact po.elim)
  refine wpAny_mono (pt.nox.run [] s1 _ H _ J rdy) (fun fl s' hs => ?_) fun e s' hs => hs
  cases fl with
  | ret u =>
    obtain ⟨v, σ', H', J', rv, q⟩ := hs
    exact ⟨v, H', J'.os, J'.bare, J'.base, J'.hok, rv, q⟩
  | next =>
    obtain ⟨σ', H', J', q⟩ := hs
    exact ⟨.non, H', J'.os, J'.bare, J'.base, J'.hok, rfl, q⟩
  | brk =>
    obtain ⟨_, _, _, q⟩ := hs
    exact q.elim
  | cont =>
    obtain ⟨_, _, _, q⟩ := hs
    exact q.elim
end
section
variable {X : Cx} {W : WX} {m m1 : List Addr} {S S1 : Sto} {H H1 : Hp} {σ : St} {ρ : Env} {κ : Addr → Prop}
variable {a b c e o : Expr} {pos : Pos} {fa fb fe fo : ED} {es : List Expr} {ga : AD} {ss : List Stmt} {a0 : Addr} {cn : Str} {d0 : Option Addr}
theorem de_callK {k j n : Nat} {x : Str} {p : Pos} {g : Addr → Option Addr → FD} (hx : HX X a0 cn d0) (F : FnK X.prog X.w X.K X.mg X.base k x n cn d0.isSome g) (hr : L2H.RoomH j X.A) (hk : k ≤ j) (hg : Gl X x) (ha : DA X W (e :: es) ga)
    (hd : (x == ("__debug__" : Str)) = false := by decide) (hs : starEach (e :: es) X.env = (false, eval e X.env) :: starEach es X.env := by rfl)
    (hp : (backTo pos (starEach es X.env)).any (·.1) = false := by rfl) : DE X W (.Call (.Name x p) (e :: es) [] pos) (eCall n (g a0 d0) ga) := by
  obtain ⟨f, fd, ps, hl, gm, kp, bd, ok⟩ := F
  obtain ⟨t, q, i⟩ := ha
  obtain ⟨oe, cls, hmem, hot, hm, hz⟩ := hx
  have pe : PE X (.Call (.Name x p) (e :: es) [] pos) (fun σ H Q => t σ H fun vs H1 => spOf X.K X.mg n (fun ds S => noEx (g a0 d0 ds S)) vs H1 Q (fun _ _ _ => False)) := by
    refine ⟨fun pins s σ H Q I hw => ?_⟩
    refine wpAny_Call_Name_kw (ld_glob I hg gm ?_ hd)
    refine PySem.W.callWith_K (h₀ := X.base) I.ok.mod.kin kp (thn (q.run pos pins s σ H _ I hw) fun us s1 hv => ?_) hs hp
    obtain ⟨vs, H1, I1, r, sp⟩ := hv
    have hul : us.length = ps.length := by rw [← r.length, hl]; exact sp.1
    have bb := bd s1 us I1.kIn (by rw [List.append_nil]; exact hul)
    rw [List.append_nil] at bb
    have pp := I1.pin (a0, oe) (List.mem_append_left _ hmem)
    have pk : L2H.PinOk X.stack H1 s1 (a0, oe) := by
      refine ⟨pp.1, pp.2.1, fun z => ?_, pp.2.2.2.2⟩
      rcases List.mem_cons.mp (I1.stkSub a0 z) with z | z
      · exact pp.2.2.1 z
      · exact pp.2.2.2.1 z
    refine ⟨I1.kIn, wpAny_call (codeAny_mono (ok X.A X.stack s1 H1 ⟨us, []⟩ us vs Q (fun _ _ _ => False) a0 oe cls d0 rfl (hr.mono hk) hot pk hm hz I1.env0 bb r sp) fun rs s' hq => ?_)⟩
    cases rs with
    | error _ => exact hq.elim
    | ok fl =>
      cases fl with
      | ret u => exact I1.after hq
      | next => exact hq.elim
      | brk => exact hq.elim
      | cont => exact hq.elim
  refine ⟨_, pe, fun κ ρ S σ H m Q rl re h => ?_⟩
  refine i.seq rl re h fun d S1 v H1 m1 x1 rl1 re1 r1 h1 => ?_
  split at h1
  · rename_i hn
    exact ⟨by rw [← pairLen r1]; exact hn, κ, d, S1, m1, rl1, r1, PostF.no h1⟩
  · exact h1.elim
/-- isinstance(e, C) of the exception in hand -/
def rIsH (K : PySem.W.Frag) (D0 a0 : Addr) (d0 : Option Addr) : List V → Hp → VK → Prop := fun xs H Q => ∃ (c : V) (cv : Value) (b : Bool), xs = [.ref a0, c] ∧ (∀ u, RelV c u → u = cv) ∧ PySem.W.kitOne K (.ref D0) cv = some b ∧ (∀ d, d0 = some d → ∃ fs, H d = some (.xd fs)) ∧ Q (.bl b) H
theorem call_isH {D0 : Addr} (C : ExcC X.K D0) (hx : HX X a0 cn d0) (hc : X.mg cn = some (.ref D0)) : CallR X (.builtin "isinstance") (rIsH X.K D0 a0 d0) := by
  obtain ⟨oe, cls, hmem, ⟨_, vs0, hd, _⟩, hm, hz⟩ := hx
  rw [hc] at hm
  cases hm
  intro pins s σ H xs us Q I r h
  obtain ⟨c, cv, b, rfl, hcv, e, hdd, q⟩ := h
  rcases r with _ | ⟨rx, _ | ⟨rt, _ | _⟩⟩
  cases rx
  have ec := hcv _ rt
  subst ec
  have g := (I.pin (a0, oe) (List.mem_append_left _ hmem)).1
  have nc : PySem.W.notCls oe := by unfold PySem.W.notCls; rw [hd] <;> rfl
  have J : ∃ od, PySem.W.InstAt s.heap a0 oe D0 od := by
    cases d0 with
    | none => exact ⟨none, g, hz.1, nc, by rw [hz.2.1]; trivial⟩
    | some d =>
      obtain ⟨fs, hfs⟩ := hdd d rfl
      obtain ⟨mA, hns, _⟩ := (I.hok d _ hfs : ObjOk X.prog X.w H s.heap d (.xd fs))
      obtain ⟨od, ho, _⟩ := lookIn_ns hns
      exact ⟨some od, g, hz.1, nc, by rw [hz.2.1]; exact ho⟩
  obtain ⟨od, J⟩ := J
  obtain ⟨cd, hcl, _⟩ := PySem.W.any_some C.hd
  exact PySem.W.kia_one (PySem.W.kitx_exc (by rw [hcl]; rfl) C.hg C.hk C.hs C.ha C.hn C.ht C.hm) I.kIn J e (fun z => nomatch z) fun tk => ⟨.bl b, H, I.kept (t' := tk) fun _ _ z => z, rfl, q⟩
def eIsE (a0 : Addr) (d0 : Option Addr) (b : Bool) (f : ED) : ED := fun ρ S => (f ρ S).bind fun d S1 => match d with
  | .xc a dd _ => if a = a0 ∧ dd = d0 then .ok (.bl b) S1 else .st
  | _ => .st
theorem de_isE {D0 : Addr} {x : Str} {p p2 : Pos} {v : V} {cv : Value} {r : Bool} (C : ExcC X.K D0) (hx : HX X a0 cn d0) (hc : X.mg cn = some (.ref D0)) (hg : Gl X "isinstance") (hm : X.mg "isinstance" = none)
    (hn : PE X (.Name x p2) (tC v)) (hv : ∀ u, RelV v u → u = cv) (hk : PySem.W.kitOne X.K (.ref D0) cv = some r) (he : DE X W e fe)
    (hb : bootBuiltins "isinstance" = some (.builtin "isinstance") := by decide +kernel)
    (hs1 : starEach [e, .Name x p2] X.env = (false, eval e X.env) :: starEach [.Name x p2] X.env := by rfl) (hs2 : starEach [.Name x p2] X.env = (false, eval (.Name x p2) X.env) :: starEach [] X.env := by rfl)
    (hp : (backTo pos (starEach [.Name x p2] X.env)).any (·.1) = false := by rfl) :
    DE X W (.Call (.Name "isinstance" p) [e, .Name x p2] [] pos) (eIsE a0 d0 r fe) := by
  obtain ⟨t, q, i⟩ := he
  refine ⟨_, pe_callB (call_isH C hx hc) hg hm hb (pa_cons q (pa_cons hn pa_nil hs2) hs1) (by decide) (by decide) hs1 hp, fun κ ρ S σ H m Q rl re h => ?_⟩
  refine i.seq rl re h fun d S1 u H1 m1 x1 rl1 re1 r1 h1 => ?_
  split at h1
  · split at h1
    · rename_i a dd fs ea
      obtain ⟨rfl, rfl⟩ := ea
      exact ⟨v, cv, r, by rw [r1.1], hv, hk, fun d e => ⟨_, r1.2 d e⟩, h1.ok' .refl rl1 RD.bl_⟩
    · exact h1.elim
  · exact h1.elim
/-- e.f of the exception in hand -/
def eAttr (a0 : Addr) (d0 : Option Addr) (f : Str) (g : ED) : ED := fun ρ S => (g ρ S).bind fun d S1 => match d with
  | .xc a dd fs => if a = a0 ∧ dd = d0 ∧ d0.isSome = true then (match fs.lookup f with
    | some (.int i) => .ok (.int i) S1
    | some (.str x) => .ok (.str x) S1
    | _ => .st) else .st
  | _ => .st
theorem lookup_sVs {f : Str} {p : PyData} : ∀ {fs : List (Str × PyData)}, fs.lookup f = some p → (sVs fs).lookup f = some (sV p)
  | [], h => by cases h
  | (g, q) :: fs, h => by
    unfold sVs
    rw [List.map_cons]
    rw [List.lookup_cons] at h ⊢
    by_cases e : f == g
    · rw [e] at h ⊢
      simp only at h ⊢
      cases h
      rfl
    · have e : (f == g) = false := by simpa using e
      rw [e] at h ⊢
      exact lookup_sVs h
theorem de_attr {C0 : Addr} {n : Str} (T : XfC X.K C0) (hno : PySem.W.findIn X.K (.ref C0) n = some none) (hx : HX X a0 cn d0) (hc : X.mg cn = some (.ref C0)) (he : DE X W e fe) (hb : attributeBase e n X.env (eval e X.env) = eval e X.env := by rfl) : DE X W (.Attribute e n pos) (eAttr a0 d0 n fe) := by
  obtain ⟨t, q, i⟩ := he
  obtain ⟨oe, cls, hmem, ⟨_, vs0, hd, _⟩, hm, hz⟩ := hx
  rw [hc] at hm
  cases hm
  have pe : PE X (.Attribute e n pos) (fun σ H Q => t σ H fun x H1 => x = .ref a0 ∧ ∃ (d : Addr) (fs : List (Str × V)) (v : V), d0 = some d ∧ H1 d = some (.xd fs) ∧ fs.lookup n = some v ∧ Q v H1) := by
    refine ⟨fun pins s σ H Q I hw => ?_⟩
    refine attr_of hb (thn (q.run pins s σ H _ I hw) fun u s1 hh => ?_)
    obtain ⟨x, H1, I1, rx, rfl, d, fs, v, rfl, ea, l, qq⟩ := hh
    cases rx
    have g := (I1.pin (a0, oe) (List.mem_append_left _ hmem)).1
    obtain ⟨mA, hns, hr⟩ := (I1.hok d _ ea : ObjOk X.prog X.w H1 s1.heap d (.xd fs))
    obtain ⟨od, ho, hl⟩ := lookIn_ns hns
    obtain ⟨u, hu, ru⟩ := RelO.some_of (v := v) (o := mA n) (by rw [← l]; exact hr n)
    have J : PySem.W.InstAt s1.heap a0 oe C0 (some od) := ⟨g, hz.1, by unfold PySem.W.notCls; rw [hd] <;> rfl, by rw [hz.2.1]; exact ho⟩
    exact HandSPX.exc_get I1.kIn J T.ga T.gg T.exC (PySem.W.findObj_own T.hdC hno rfl (by rw [hl, hu])) (handed_of ru) ⟨v, H1, I1.tok _, ru, qq⟩
  refine ⟨_, pe, fun κ ρ S σ H m Q rl re h => ?_⟩
  refine i.seq rl re h fun d S1 u H1 m1 x1 rl1 re1 r1 h1 => ?_
  split at h1
  · split at h1
    · rename_i a dd fs ea
      obtain ⟨rfl, rfl, hs⟩ := ea
      obtain ⟨d1, rfl⟩ := Option.isSome_iff_exists.mp hs
      split at h1
      · rename_i i el
        exact ⟨r1.1, d1, _, _, rfl, r1.2 d1 rfl, lookup_sVs el, h1.ok' .refl rl1 RD.int_⟩
      · rename_i z el
        exact ⟨r1.1, d1, _, _, rfl, r1.2 d1 rfl, lookup_sVs el, h1.ok' .refl rl1 RD.str_⟩
      · exact h1.elim
    · exact h1.elim
  · exact h1.elim
/-! for over range -/
structure DIH (X : Cx) (W : WX) (tg iter : Expr) (f : Env → Sto → Rs IDt) : Prop where
  ex : ∃ wi : TI, L2H.PIH X tg iter wi ∧ Imp X W (fun K m S H (d : IDt) (J : It) => ItOk K m S H J d.1 d.2) wi f
theorem dih_range1 {tg : Expr} {p : Pos} {ga : AD} (hg : Gl X "range") (hm : X.mg "range" = none) (ha : DA X W [a] ga) (hs : starEach [a] X.env = [(false, eval a X.env)] := by rfl) : DIH X W tg (.Call (.Name "range" p) [a] [] pos) (iRgA ga) := by
  obtain ⟨t, q, i⟩ := ha
  refine ⟨_, L2H.pi_range1H hg hm q hs, fun κ ρ S σ H m Q rl re h => ?_⟩
  refine i.seq rl re h fun d S1 v H1 m1 x1 rl1 re1 r1 h1 => ?_
  split at h1
  · split at h1
    · rename_i i hi
      obtain ⟨u, rfl, q1⟩ := RDs1 r1
      have hi' := big62_iff hi
      rw [q1.int]
      exact ⟨i, rfl, hi'.1, hi'.2, h1.ok' .refl rl1 itr_ok⟩
    · exact h1.elim
  · exact h1.elim
theorem ds_forH {tg iter : Expr} {body : List Stmt} {f : Env → Sto → Rs IDt} {g : GD} {fb : SD} (hp : PassesOwn (model X.prog X.w) X.A X.env X.xe) (hx : HX X a0 cn d0) (hi : DIH X W tg iter f) (hg : DG X W tg g) (hb : DSs X W body fb)
    (hs : ∀ x, foldedSetIterable iter X.env x = pure x := by intro _; rfl) : DS X W (.For tg iter body [] pos) (sFor f g fb) := by
  obtain ⟨wi, pi, ii⟩ := hi
  obtain ⟨t, pg, ig⟩ := hg
  obtain ⟨tb, pb, ib⟩ := hb
  exact ⟨_, L2H.ps_forH hp hx.hot pi pg pb hs, imp_for ii ig ib⟩
end
/-! a list comprehension there -/
/-- the block's context, the exception in hand kept in sight -/
abbrev blkH (X : Cx) (s : Shared) (H : Hp) (scope : Scope) (ce : PySem.Env) (fp : List Addr) : Cx := { X.blk s H scope ce fp with pn := X.pn }
section
variable {X : Cx} {pins : List (Addr × Obj)} {σ : St} {H : Hp} {s : Shared} {scope : Scope} {own : List (Str × Nat)} {fp : List Addr}
theorem startH (I : Inv X pins σ H s) (ok : BlkOk X.N X.env.scope scope own) (hN : X.N.Nodup) (hfp : ∀ b ∈ fp, FpOk X pins H b ∧ b < s.heap.objs.size) :
    Inv (blkH X s H scope (compEnvC scope (cellsFrom (s.heap.objs.size + 1) scope.names (cloFrom X.env.cells scope.names [])) s.heap.objs.size X.env) fp) [] (L2.wipe σ (own.map (·.2))) H { s with heap := pushCells (s.heap.push { cls := .type "dict", data := .dict #[] }) scope.names } := by
  have J := block_start I ok hN hfp
  have o := J.ok
  refine ⟨⟨o.mod, o.kind, o.glob, o.blt, o.above, o.inj, o.has, o.cab, o.hd, o.frames, o.stk, o.exf, o.bs, o.bsz, o.noex, o.exfs, o.funs, o.frf⟩, J.os, J.bare, J.base, J.loc, J.cell, J.free, J.freeC, fun q hq => ?_, J.hok, J.len⟩
  have hq : q ∈ X.pn := by simpa using (show q ∈ X.pn ++ [] from hq)
  obtain ⟨e1, e2, e3, e4, e5⟩ := I.pin q (List.mem_append_left _ hq)
  refine ⟨pushCells_keeps _ _ _ _ (Heap.get?_push_of_some _ e1), e2, Nat.ne_of_lt (Heap.lt_size e1), fun z => ?_, e5⟩
  rcases List.mem_cons.mp (I.stkSub q.1 z) with z | z
  · exact e3 z
  · exact e4 z
theorem pe_lcH {elt tg iter : Expr} {ifs : List Expr} {pos : Pos} {wi : TI} {g : TG} {tt : TT} {te : TE} (hc : L2H.HotC X) (hN : X.N.Nodup) (hi : L2H.PIH X tg iter wi) (ok : BlkOk X.N X.env.scope scope own)
    (hg : ∀ (s : Shared) (H : Hp) (C : Addr) (cl : List (Str × Addr)) (fp : List Addr), PG (blkH X s H scope (compEnvC scope cl C X.env) fp) tg g)
    (ht : ∀ (s : Shared) (H : Hp) (C : Addr) (cl : List (Str × Addr)) (fp : List Addr), PTs (blkH X s H scope (compEnvC scope cl C X.env) fp) ifs tt)
    (he : ∀ (s : Shared) (H : Hp) (C : Addr) (cl : List (Str × Addr)) (fp : List Addr), PE (blkH X s H scope (compEnvC scope cl C X.env) fp) elt te)
    (hs : ∀ x, foldedSetIterable iter X.env x = pure x := by intro _; rfl) : PE X (.ListComp elt [⟨tg, iter, ifs, 0⟩] scope pos) (tLc wi g tt te (own.map (·.2))) := by
  refine ⟨fun pins s σ H Q I hw => ?_⟩
  rw [eval_ListComp]
  have clo : closureFor scope X.env = pure (cloFrom X.env.cells scope.names []) := closure_ok fun y hy e => by
    rcases ok.free y hy e with q | q
    · exact I.ok.has _ (.inl q)
    · exact I.ok.has _ (.inr q)
  have hHot : ∀ (s : Shared) (H : Hp) (ce : PySem.Env) (fp : List Addr), L2H.HotC (blkH X s H scope ce fp) := fun _ _ _ _ => hc
  refine wpAny_comprehension_free (use := none) rfl hs clo ok.kind (fun y hy e => by rw [ok.uniq y hy, e]) (thn (hi.run pins s σ H _ I hw) fun xv sa hx => thn hx fun itv sb hb => ?_)
  obtain ⟨it, fp, tn, J, Hb, rfl, Ib, T, stb, fb, q⟩ := hb
  refine wpAny_newObj_type (newEnv_comp ?_) (Nat.zero_le _)
  -- the list that grows stands at L
  obtain ⟨L, hL⟩ : ∃ L, L = sb.heap.objs.size := ⟨_, rfl⟩
  have free : Hb L = none := Ib.hok.fresh (Nat.le_of_eq hL.symm)
  obtain ⟨Wv, ⟨m0, w0⟩, turn⟩ := q L free
  obtain ⟨sc, hsc⟩ : ∃ sc : Shared, sc = { sb with heap := sb.heap.push { cls := .type "list", data := .seq ([] : List Value).toArray } } := ⟨_, rfl⟩
  have hsz : sb.heap.objs.size < sc.heap.objs.size := by rw [hsc]; show _ < (Heap.push _ _).objs.size; rw [Heap.size_push]; exact Nat.lt_succ_self _
  have kbc : ∀ b o, sb.heap.get? b = some o → sc.heap.get? b = some o := fun b o e => by rw [hsc]; exact Heap.get?_push_of_some _ e
  have Ic : Inv X pins σ (upd Hb L (.lst [])) sc := by
    rw [hsc, hL]
    exact Ib.laid (t' := sb.toks) (fun b o e => Heap.get?_push_of_some _ e) (Nat.le_refl _) ⟨Nat.zero_le _, [], 0, .nil, Heap.get?_push_size _ rfl⟩
  have fc : ∀ b ∈ fp, FpOk X pins (upd Hb L (.lst [])) b ∧ b < sc.heap.objs.size := fun b hb => by
    obtain ⟨o, e, _⟩ := T.obj _ _ stb b hb
    have lt := Heap.lt_size e
    refine ⟨⟨?_, (fb b hb).2⟩, Nat.lt_trans lt hsz⟩
    rw [upd_ne (by rw [hL]; exact Nat.ne_of_lt lt)]
    exact (fb b hb).1
  have Id := startH Ic ok hN fc
  have pg := hg sc (upd Hb L (.lst [])) sc.heap.objs.size (cellsFrom (sc.heap.objs.size + 1) scope.names (cloFrom X.env.cells scope.names [])) fp
  have pt := ht sc (upd Hb L (.lst [])) sc.heap.objs.size (cellsFrom (sc.heap.objs.size + 1) scope.names (cloFrom X.env.cells scope.names [])) fp
  have pe := he sc (upd Hb L (.lst [])) sc.heap.objs.size (cellsFrom (sc.heap.objs.size + 1) scope.names (cloFrom X.env.cells scope.names [])) fp
  have hot := hHot sc (upd Hb L (.lst [])) (compEnvC scope (cellsFrom (sc.heap.objs.size + 1) scope.names (cloFrom X.env.cells scope.names [])) sc.heap.objs.size X.env) fp
  have std : tn 0 (pushCells (sc.heap.push { cls := .type "dict", data := .dict #[] }) scope.names) := T.keep _ _ _ stb fun b _ o e => pushCells_keeps _ _ _ _ (Heap.get?_push_of_some _ (kbc b o e))
  rw [← hL, ← hsc]
  show codeAny _ _ (.compStart (.ListComp elt [⟨tg, iter, ifs, 0⟩] scope pos) 0 (.ref it) (.ref L) (compEnvC scope (cellsFrom (sc.heap.objs.size + 1) scope.names (cloFrom X.env.cells scope.names [])) sc.heap.objs.size X.env)) (compPost (model X.prog X.w) X.A X.xe none _ (.ref L) sc.heap.objs.size)
    { sc with heap := pushCells (sc.heap.push { cls := .type "dict", data := .dict #[] }) scope.names }
  obtain ⟨ce, hce⟩ : ∃ ce, ce = compEnvC scope (cellsFrom (sc.heap.objs.size + 1) scope.names (cloFrom X.env.cells scope.names [])) sc.heap.objs.size X.env := ⟨_, rfl⟩
  have hcl : ce.locals = sc.heap.objs.size := by rw [hce]; rfl
  rw [← hce] at Id pg pt pe hot ⊢
  obtain ⟨Hc, hHc⟩ : ∃ Hc, Hc = upd Hb L (.lst []) := ⟨_, rfl⟩
  rw [← hHc] at Ic Id pg pt pe hot w0 fc
  obtain ⟨sd, hsd⟩ : ∃ sd : Shared, sd = { sc with heap := pushCells (sc.heap.push { cls := .type "dict", data := .dict #[] }) scope.names } := ⟨_, rfl⟩
  rw [← hsd] at Id ⊢
  have std : tn 0 sd.heap := by rw [hsd]; exact std
  let Y := blkH X sc Hc scope ce fp
  have fpY : ∀ {τ : St} {H' : Hp} {s' : Shared}, Inv Y [] τ H' s' → (∀ b ∈ fp, H' b = none) → ∀ b ∈ fp, FpOk Y [] H' b := fun {τ H' s'} I' hn b hb => by
    refine ⟨hn b hb, (I'.ok.exf b hb).1, I'.ok.exfs b hb, .inl hb, fun x c e => (I'.ok.exf b hb).2 x c e, fun p hp => ?_⟩
    have hp : p ∈ X.pn := by simpa using (show p ∈ X.pn ++ [] from hp)
    exact (fc b hb).1.2.2.2.2.2 p (List.mem_append_left _ hp)
  have loop : codeAny (model X.prog X.w) X.A (.compLoop (.ListComp elt [⟨tg, iter, ifs, 0⟩] scope pos) 0 (.ref it) (.ref L) ce) (compPost (model X.prog X.w) X.A X.xe none (fun v s' => ∃ x H', Inv X pins σ H' s' ∧ RelV x v ∧ Q x H') (.ref L) sc.heap.objs.size) sd := by
    refine compLoop_any (fun n s' => ∃ i H', Wv i n H' ∧ Inv Y [] (L2.wipe σ (own.map (·.2))) H' s' ∧ tn i s'.heap ∧ ∀ b ∈ fp, H' b = none) ?_ m0 ⟨0, Hc, w0, Id, std, fun b hb => (fc b hb).1.1⟩
    rintro n s5 ⟨i, H5, w5, I5, st5, n5⟩
    rcases turn i n H5 w5 with ⟨stop, fin⟩ | ⟨go, Nxt, hNxt, step⟩
    · refine thnF (T.done Y rfl rfl rfl hot i [] s5 _ H5 (fun _ _ => False) I5 (fpY I5 n5) st5 stop) fun r s6 hr => ?_
      obtain ⟨rfl, I6⟩ := hr
      have back : Inv X pins σ H5 s6 := Ic.call' (ch := fp) I6.os I6.base I6.hok I6.bare fun b hb => by
        obtain ⟨_, f1, _, f3, f4, f5⟩ := (fc b hb).1
        exact ⟨f3, f1, f4, f5⟩
      have nC : H5 sc.heap.objs.size = none := by rw [← hcl]; exact I6.free
      obtain ⟨mm, hmm, _⟩ := I6.loc
      have hmm : s6.heap.Ns ce.locals mm := hmm
      rw [hcl] at hmm
      refine ⟨mm, hmm, fun h' but => ?_⟩
      obtain ⟨f0, f1, f2, f3, f4, f5⟩ := Ic.fpOk (Nat.le_refl _) nC
      exact ⟨.ref L, H5, back.turned (t' := s6.toks) (fun b o hb e => (but.2 b hb).trans e) f0 f1 f3 f4 f5, rfl, fin⟩
    · refine thnF (T.item Y rfl rfl rfl hot i [] s5 _ H5 (fun _ _ => False) I5 (fpY I5 n5) st5 go) fun r s6 hr => ?_
      obtain ⟨u, rfl, h6⟩ := hr
      refine thnF h6 fun _ s7 h7 => ?_
      obtain ⟨x, H7, I7, r7, y7, st7, n7⟩ := h7
      have Ip := I7.pinned (fpY I7 n7) (T.obj _ _ st7)
      refine thnF (pg.run _ s7 _ H7 x u _ Ip r7 (step x H7 y7)) fun _ s8 h8 => ?_
      obtain ⟨τ, H8, I8, wp8, q8⟩ := h8
      refine thnF (pt.run _ s8 τ H8 _ I8 q8) fun b s9 h9 => ?_
      obtain ⟨H9, I9, q9⟩ := h9
      have again : ∀ {s' : Shared} {H' : Hp}, Inv Y ([] ++ pinsAt fp s7.heap) τ H' s' → Nxt H' → ∃ m, m < n ∧ ∃ i H', Wv i m H' ∧ Inv Y [] (L2.wipe σ (own.map (·.2))) H' s' ∧ tn i s'.heap ∧ ∀ b ∈ fp, H' b = none := fun {s' H'} I' nx => by
        obtain ⟨m', hm, w'⟩ := hNxt H' nx
        have kept : ∀ b ∈ fp, ∀ o, s7.heap.get? b = some o → s'.heap.get? b = some o ∧ H' b = none := fun b hb o e => by
          have z := I'.pin (b, o) (List.mem_append_right _ (List.mem_append_right _ (mem_pinsAt hb e)))
          exact ⟨z.1, z.2.1⟩
        have ln : (L2.wipe σ (own.map (·.2))).length = τ.length := by rw [← wp8, wipe_length]
        refine ⟨m', hm, i + 1, H', w', (I'.unpinned (pins := [])).weak ln (fun j v e => ?_), T.keep _ _ _ st7 fun b hb o e => (kept b hb o e).1, fun b hb => ?_⟩
        · rw [← wp8] at e
          exact (wipe_some e).1
        · obtain ⟨o, e, _⟩ := T.obj _ _ st7 b hb
          exact (kept b hb o e).2
      cases b with
      | false => exact again I9 q9
      | true =>
        refine thnF (pe.run _ s9 τ H9 _ I9 q9) fun z s10 h10 => ?_
        obtain ⟨yv, H10, I10, r10, acc, hL10, hz10, nx⟩ := h10
        exact app_ok (X := Y) I10 hL10 hz10 r10 fun s11 I11 => again I11 nx
  exact codeAny_compStart_list loop (T.self X.A 0 _ _ _ std loop)
end
section
variable {X : Cx} {W : WX} {a0 : Addr} {cn : Str} {d0 : Option Addr} {pos : Pos}
variable {elt tg iter : Expr} {ifs : List Expr} {scope : Scope} {own : List (Str × Nat)} {fi : Env → Sto → Rs IDt} {g : GD} {c : BD} {f : ED}
theorem de_lcH (hx : HX X a0 cn d0) (hN : X.N.Nodup) (hi : DIH X W tg iter fi) (ok : BlkOk X.N X.env.scope scope own)
    (hg : ∀ (s : Shared) (H : Hp) (C : Addr) (cl : List (Str × Addr)) (fp : List Addr), DGw (blkH X s H scope (compEnvC scope cl C X.env) fp) tg (own.map fun x => x.2) g)
    (ht : ∀ (s : Shared) (H : Hp) (C : Addr) (cl : List (Str × Addr)) (fp : List Addr), DTs (blkH X s H scope (compEnvC scope cl C X.env) fp) (fun _ _ _ _ => False) ifs c)
    (he : ∀ (s : Shared) (H : Hp) (C : Addr) (cl : List (Str × Addr)) (fp : List Addr), DE (blkH X s H scope (compEnvC scope cl C X.env) fp) (fun _ _ _ _ => False) elt f)
    (hs : ∀ x, foldedSetIterable iter X.env x = pure x := by intro _; rfl) : DE X W (.ListComp elt [⟨tg, iter, ifs, 0⟩] scope pos) (eLc fi g c f (own.map fun x => x.2)) := by
  obtain ⟨wi, pi, ii⟩ := hi
  exact ⟨_, @pe_lcH X scope own elt tg iter ifs pos wi (canG X (List.map (fun (x : Str × Nat) => x.2) own) g) (can X (fun _ _ _ _ => False) RB c) (can X (fun _ _ _ _ => False) RD f) hx.hot hN pi ok (fun s H C cl fp => (hg s H C cl fp).run) (fun s H C cl fp => (ht s H C cl fp).run) (fun s H C cl fp => (he s H C cl fp).can) hs, imp_lc ii⟩
end
/-- what is never reached -/
theorem de_any {X : Cx} {W : WX} {e : Expr} : DE X W e (fun _ _ => .st) := ⟨fun _ _ _ => False, ⟨fun _ _ _ _ _ _ h => h.elim⟩, fun _ _ _ _ _ _ _ _ _ h => h.elim⟩
theorem roomH_mark {j : Nat} {A : Around} {v : Option Value} (r : Room j A) : L2H.RoomH j (A.mark v) := ⟨r.dp, r.un⟩
end DL

namespace DL
open PySem PySem.Spec PyProof.Rows L2
/-! ### what a def does, by its body -/
open Classical in
/-- of what stands behind the body, what the caller sees -/
noncomputable def pick (S S' : Sto) (d : D) : Rs D :=
  if S.length ≤ S'.length ∧ ClS S.length (S'.take S.length) ∧ ClD S.length d then .ok d (S'.take S.length)
  else if S.length ≤ S'.length ∧ ClS S'.length S' ∧ ClD S'.length d then .ok d S' else .st
open Classical in
noncomputable def pickX (S S' : Sto) (x : Xc) : Rs D := if S.length ≤ S'.length ∧ ClS S.length (S'.take S.length) then .ex x (S'.take S.length) else .st
noncomputable def gB (N : List Str) (F : SD) : FD := fun ds S => match F (start0 N ds) S with
  | .rt d S' => pick S S' d
  | .nx _ S' => pick S S' .non
  | .ex x _ S' => pickX S S' x
  | _ => .st
theorem gB_dn (N : List Str) (F : SD) (ds : List D) (S : Sto) : Dn S (F (start0 N ds) S) (gB N F ds S) := by
  unfold gB
  cases e : F (start0 N ds) S with
  | st => trivial
  | bk _ _ => trivial
  | ct _ _ => trivial
  | rt d S' =>
    show Dn S _ (pick S S' d)
    unfold pick
    split
    · rename_i h
      have hl : (S'.take S.length).length = S.length := by rw [List.length_take]; omega
      exact ⟨by rw [hl]; exact Nat.le_refl _, by rw [hl]; exact h.2.1, by rw [hl]; exact h.2.2, .inl ⟨S'.drop S.length, by rw [List.take_append_drop]⟩⟩
    · split
      · rename_i h
        exact ⟨h.1, h.2.1, h.2.2, .inl ⟨[], by rw [List.append_nil]⟩⟩
      · trivial
  | nx ρ S' =>
    show Dn S _ (pick S S' .non)
    unfold pick
    split
    · rename_i h
      have hl : (S'.take S.length).length = S.length := by rw [List.length_take]; omega
      exact ⟨by rw [hl]; exact Nat.le_refl _, by rw [hl]; exact h.2.1, by rw [hl]; exact h.2.2, .inr ⟨rfl, ρ, S'.drop S.length, by rw [List.take_append_drop]⟩⟩
    · split
      · rename_i h
        exact ⟨h.1, h.2.1, h.2.2, .inr ⟨rfl, ρ, [], by rw [List.append_nil]⟩⟩
      · trivial
  | ex x ρ S' =>
    show Dn S _ (pickX S S' x)
    unfold pickX
    split
    · rename_i h
      have hl : (S'.take S.length).length = S.length := by rw [List.length_take]; omega
      exact ⟨by rw [hl]; exact Nat.le_refl _, by rw [hl]; exact h.2, ρ, S'.drop S.length, by rw [List.take_append_drop]⟩
    · trivial
theorem take_left' {S2 T : Sto} {n : Nat} (h : S2.length = n) : (S2 ++ T).take n = S2 := by rw [← h, List.take_left']; rfl
theorem gB_rt {N : List Str} {F : SD} {ds : List D} {S S2 T : Sto} {d : PyData} (e : F (start0 N ds) S = .rt (.p d) (S2 ++ T)) (hl : S2.length = S.length) (hc : ClS S.length S2) : gB N F ds S = .ok (.p d) S2 := by
  unfold gB
  rw [e]
  show pick S (S2 ++ T) (.p d) = _
  unfold pick
  rw [take_left' hl, if_pos ⟨by rw [List.length_append]; omega, hc, trivial⟩]
theorem gB_nx {N : List Str} {F : SD} {ds : List D} {S S2 T : Sto} {ρ : Env} (e : F (start0 N ds) S = .nx ρ (S2 ++ T)) (hl : S2.length = S.length) (hc : ClS S.length S2) : gB N F ds S = .ok .non S2 := by
  unfold gB
  rw [e]
  show pick S (S2 ++ T) .non = _
  unfold pick
  rw [take_left' hl, if_pos ⟨by rw [List.length_append]; omega, hc, trivial⟩]
theorem gB_ex {N : List Str} {F : SD} {ds : List D} {S S2 T : Sto} {ρ : Env} {x : Xc} (e : F (start0 N ds) S = .ex x ρ (S2 ++ T)) (hl : S2.length = S.length) (hc : ClS S.length S2) : gB N F ds S = .ex x S2 := by
  unfold gB
  rw [e]
  show pickX S (S2 ++ T) x = _
  unfold pickX
  rw [take_left' hl, if_pos ⟨by rw [List.length_append]; omega, hc⟩]
section
variable {P : Program} {w : World} {K : PySem.W.Frag} {mg : Str → Option Value} {base : Heap}
abbrev FunS (K : PySem.W.Frag) (x : Str) (st : Stmt) (f : Addr) (fd : FuncData) : Prop := FunD K x x (defArgs st) (defBody st) (defScope st) [] [] f fd
abbrev BindsAs (x : Str) (st : Stmt) (ps : List Str) : Prop := ∀ (kV doc pm : Value) (an : Option Addr) (cdv ct : Value) (us : List Value), us.length = ps.length → bindArgs (PySem.W.fnOf x x (defArgs st) (defBody st) (defScope st) .none kV doc pm an cdv ct) ⟨us, []⟩ = pure (ps.zip us)
/-- a def is what its body says -/
theorem fn_dl {x : Str} {st : Stmt} {f : Addr} {fd : FuncData} {N ps : List Str} {k n : Nat} {F : SD} (Fu : FunS K x st f fd) (Sc : FnScope N ps (defScope st)) (gm : mg x = some (.ref f)) (bd : BindsAs x st ps) (hn : ps.length = n)
    (body : ∀ (cdv : Value) (A : Around) (outer : List PySem.Env) (s : Shared) (H : Hp) (E : XK), Room k (A.deeper (envOfC x (defScope st) s.heap.objs.size f cdv)) →
      DSs (cxOf CX0 P w K mg base N x (defScope st) f cdv A outer s H E).nox (fun _ _ _ _ => False) (defBody st) F) : FnD P w K mg base (k + 1) x n (gB N F) := by
  refine ⟨f, fd, ps, hn, gm, Fu.kp, Fu.bindsN bd, Fu.ok (CX := CX0) Sc (fun vs H Q E h => h.1.trans hn.symm) fun cdv A outer s H vs Q E hr h => ?_⟩
  obtain ⟨hl, κ, ds, S, m, rl, rd, po⟩ := h
  obtain ⟨t, pt, it⟩ := body cdv A outer s H E hr
  refine ⟨t, pt.nox, it κ (start0 N ds) S (L2.start N vs) H m _ rl (RE_start rd) ?_⟩
  refine post_of (E := fun _ _ _ => False) rl (gB_dn N F ds S) ?_ (fun _ _ _ _ z => z)
  have po : PostF ⟨K, κ⟩ mg m S H (noEx (gB N F ds S)) Q E := po
  cases e : gB N F ds S with
  | st => rw [e] at po; exact po.elim
  | ok d S' => rw [e] at po; exact po
  | ex y S' => rw [e] at po; exact po.elim
theorem fn_dlN {x : Str} {st : Stmt} {f : Addr} {fd : FuncData} {N ps : List Str} {k n : Nat} {F : SD} (Fu : FunS K x st f fd) (Sc : FnScope N ps (defScope st)) (gm : mg x = some (.ref f)) (bd : BindsAs x st ps) (hn : ps.length = n)
    (body : ∀ (cdv : Value) (A : Around) (outer : List PySem.Env) (s : Shared) (H : Hp) (E : XK), Room k (A.deeper (envOfC x (defScope st) s.heap.objs.size f cdv)) →
      DSs (cxOf (L2N.CX P w) P w K mg base N x (defScope st) f cdv A outer s H E) (fun cls d _ H => E cls d H) (defBody st) F) : FnN P w K mg base (k + 1) x n (gB N F) := by
  refine ⟨f, fd, ps, hn, gm, Fu.kp, Fu.bindsN bd, Fu.ok (CX := L2N.CX P w) Sc (fun vs H Q E h => h.1.trans hn.symm) fun cdv A outer s H vs Q E hr h => ?_⟩
  obtain ⟨hl, κ, ds, S, m, rl, rd, po⟩ := h
  obtain ⟨t, pt, it⟩ := body cdv A outer s H E hr
  refine ⟨t, pt, it κ (start0 N ds) S (L2.start N vs) H m _ rl (RE_start rd) ?_⟩
  exact post_of (E := E) rl (gB_dn N F ds S) po (fun _ _ _ _ z => z)
theorem fn_dlK {x : Str} {st : Stmt} {f : Addr} {fd : FuncData} {N ps : List Str} {k n : Nat} {cn : Str} {dk : Bool} {F : Addr → Option Addr → SD} (Fu : FunS K x st f fd) (Sc : FnScope N ps (defScope st)) (gm : mg x = some (.ref f)) (bd : BindsAs x st ps) (hn : ps.length = n)
    (body : ∀ (cdv : Value) (A : Around) (outer : List PySem.Env) (s : Shared) (H : Hp) (E : XK) (p : Addr × Obj) (d : Option Addr), d.isSome = dk → L2H.RoomH k (A.deeper (envOfC x (defScope st) s.heap.objs.size f cdv)) → HX (hotX P w K mg base N x st f cdv A outer s H E p) p.1 cn d →
      DSs (hotX P w K mg base N x st f cdv A outer s H E p) (fun _ _ _ _ => False) (defBody st) (F p.1 d)) : FnK P w K mg base (k + 1) x n cn dk (fun a d => gB N (F a d)) := by
  subst hn
  have key : ∀ (oc : Value) (od : Option Addr) (dV kV doc pm : Value) (an : Option Addr) (cdv ct : Value) (osl : Array (Option Value)), fd = PySem.W.fnOf x x (defArgs st) (defBody st) (defScope st) dV kV doc pm an cdv ct → K.lookup f = some ⟨oc, od, .func fd, osl⟩ → PySem.W.codeIn K cdv x = true → dV = .none → Fun K x x st f fd := by
    rintro oc od dV kV doc pm an cdv ct osl rfl l c rfl
    exact ⟨⟨oc, od, kV, doc, pm, an, cdv, ct, osl, rfl, l, c⟩, Fu.kp⟩
  obtain ⟨oc, od, dV, kV, doc, pm, an, cdv, ct, osl, e, l, c, dv, _⟩ := Fu.ex
  have hdV : dV = .none := by
    rcases dv with ⟨_, h⟩ | ⟨h, _⟩
    · exact h
    · exact absurd rfl h
  exact Fun.dlK (key oc od dV kV doc pm an cdv ct osl e l c hdV) Sc gm (Fu.bindsN bd) body (fun a d ds S _ _ _ => gB_dn N (F a d) ds S)
end
section
variable {P : Program} {w : World} {K : PySem.W.Frag} {mg : Str → Option Value} {base : Heap}
theorem fnD_st {x : Str} {st : Stmt} {f : Addr} {fd : FuncData} {ps : List Str} {k n : Nat} (Fu : FunS K x st f fd) (gm : mg x = some (.ref f)) (bd : BindsAs x st ps) (hn : ps.length = n) : FnD P w K mg base k x n (fun _ _ => .st) := by
  refine ⟨f, fd, ps, hn, gm, Fu.kp, Fu.bindsN bd, ⟨fun vs H Q E h => h.1.trans hn.symm, fun A outer s H ar us vs Q E hr e0 hb r h => ?_⟩⟩
  obtain ⟨_, _, _, _, _, _, _, po⟩ := h
  exact po.elim
theorem fn_okS {x : Str} {st : Stmt} {f : Addr} {fd : FuncData} {N ps : List Str} {k n : Nat} {F : SD} (Fu : FunS K x st f fd) (Sc : FnScope N ps (defScope st))
    (body : ∀ (cdv : Value) (A : Around) (outer : List PySem.Env) (s : Shared) (H : Hp) (E : XK), Room k (A.deeper (envOfC x (defScope st) s.heap.objs.size f cdv)) →
      DSs (cxOf CX0 P w K mg base N x (defScope st) f cdv A outer s H E).nox (fun _ _ _ _ => False) (defBody st) F) (hn : ps.length = n := by rfl) : FnOk P w K mg base CX0 (k + 1) f fd ps (spOf K mg n fun ds S => noEx (gB N F ds S)) := by
  refine Fu.ok (CX := CX0) Sc (fun vs H Q E h => h.1.trans hn.symm) fun cdv A outer s H vs Q E hr h => ?_
  obtain ⟨hl, κ, ds, S, m, rl, rd, po⟩ := h
  obtain ⟨t, pt, it⟩ := body cdv A outer s H E hr
  refine ⟨t, pt.nox, it κ (start0 N ds) S (L2.start N vs) H m _ rl (RE_start rd) ?_⟩
  refine post_of (E := fun _ _ _ => False) rl (gB_dn N F ds S) ?_ (fun _ _ _ _ z => z)
  have po : PostF ⟨K, κ⟩ mg m S H (noEx (gB N F ds S)) Q E := po
  cases e : gB N F ds S with
  | st => rw [e] at po; exact po.elim
  | ok d S' => rw [e] at po; exact po
  | ex y S' => rw [e] at po; exact po.elim
theorem funS_same {x : Str} {st : Stmt} {f : Addr} {fd fd' : FuncData} (a : FunS K x st f fd) (b : FunS K x st f fd') : fd = fd' := by
  obtain ⟨_, _, _, _, _, _, _, _, _, _, _, l1, _⟩ := a.ex
  obtain ⟨_, _, _, _, _, _, _, _, _, _, _, l2, _⟩ := b.ex
  have e := l1.symm.trans l2
  injection e with e
  injection e with _ _ e _
  injection e
end
/-! ### the head -/
/-- what is seen: what the module's names reach, and the interpreter's own statics -/
def asM (g : Addr → Option Obj) (n : Nat) : List Addr := He.asD g n ++ [cStatics]
/-- more that is seen of the top -/
def hookM (n : Nat) (fa : List He.Fa) (fn : List He.DefD) (more : PySem.W.Frag → Bool) : PySem.W.Hook where
  α := He.AlD × Bool
  obs := fun s => (He.obsD fa fn (He.frG s.heap.get? (asM s.heap.get? n)), more (He.frG s.heap.get? (asM s.heap.get? n)))
  val := fun _ => (He.valD fn, true)
  says := fun _ h => ∃ K : PySem.W.Frag, K.In h ∧ He.SaysD fa fn K ∧ more K = true
  of := fun _ _ e => ⟨_, He.frG_in, congrArg Prod.fst e, congrArg Prod.snd e⟩
  keeps := fun _ _ _ ⟨K, hK, c⟩ k => ⟨K, PySem.W.Frag.In.keeps hK k, c⟩
def obM (n : Nat) (fa : List He.Fa) (fn : List He.DefD) (more : PySem.W.Frag → Bool) (s : PySem.W.SharedT) : He.AlD × Bool := (He.obsD fa fn (He.frG (HandSHeadRun.getT s) (asM (HandSHeadRun.getT s) n)), more (He.frG (HandSHeadRun.getT s) (asM (HandSHeadRun.getT s) n)))
theorem obM_eq {n : Nat} {fa : List He.Fa} {fn : List He.DefD} {more : PySem.W.Frag → Bool} (s : PySem.W.SharedT) : obM n fa fn more s = (hookM n fa fn more).obs s.abs := by
  have e : HandSHeadRun.getT s = s.abs.heap.get? := funext (HandSHeadRun.getT_eq s)
  unfold obM
  rw [e]
  rfl
/-- an own class of exceptions that isinstance may be asked of -/
def excB (K : PySem.W.Frag) (D0 : Addr) : Bool :=
  He.eqO (PySem.W.findIn K (.ref D0) "__getattribute__") (some (some (.builtin "BaseException.__getattribute__"))) && (He.eqO (PySem.W.findIn K (.ref D0) "__getattr__") (some none) && (decide (PySem.W.subIn K (.ref D0) (.type "BaseException") = some true) && (PySem.W.hasDictIn K D0 &&
  (He.eqO (PySem.W.findIn K (.ref D0) "__class__") (some (some (.builtin "object.__class__"))) && (He.eqO (PySem.W.specialIn K (.builtin "object.__class__") "__get__") (some (some (.builtin "getset_descriptor.__get__"))) && (decide (PySem.W.takesIn K (.builtin "object.__class__") = some true) && decide (PySem.W.mroIn K D0 (.type "object") = some true)))))))
theorem excB_ok {K : PySem.W.Frag} {D0 : Addr} (h : excB K D0 = true) : ExcC K D0 := by
  unfold excB at h
  simp only [Bool.and_eq_true] at h
  obtain ⟨h1, h2, h3, h4, h5, h6, h7, h8⟩ := h
  exact ⟨He.eqO_ok h1, He.eqO_ok h2, of_decide_eq_true h3, h4, He.eqO_ok h5, He.eqO_ok h6, of_decide_eq_true h7, of_decide_eq_true h8⟩
def kitB1 (K : PySem.W.Frag) (a : Value) (c : Value) (b : Bool) : Bool := decide (PySem.W.kitOne K a c = some b)
/-- the law's end -/
theorem law_sp {K : PySem.W.Frag} {mg : Str → Option Value} {g : FD} {H : Hp} {a : Addr} {ns : List Int} {S' : Sto} (hO : Only H) (hS : SqL K H a (ns.map V.int)) (e : g [.scr ns] [] = .ok (.bl true) S') :
    spOf K mg 1 (fun ds S => noEx (g ds S)) [.ref a] H (fun v _ => v = .bl true) (fun _ _ _ => False) := by
  refine ⟨rfl, fun _ => False, [.scr ns], [], [], ⟨rfl, List.nodup_nil, fun _ h => h.elim, fun n a o h => by simp at h⟩, .cons ⟨a, rfl, ?_⟩ .nil, ?_⟩
  · rcases hS with (h | ⟨o, h⟩) | h
    · rcases hO a with z | ⟨o, xs, z⟩
      · rw [z] at h; cases h
      · rw [z] at h; cases h
    · exact .inl ⟨o, h⟩
    · exact .inr (.inr h)
  · show PostF _ _ _ _ _ (noEx (g [.scr ns] [])) _ _
    rw [e]
    intro v H' m' _ _ r
    have r : RP _ _ _ _ _ := r
    rw [RP] at r
    exact r
end DL

namespace DL
open PySem PySem.Spec PyProof.Rows L2
/-! ### own exceptions with a making of their own -/
def oexB (K : PySem.W.Frag) (C : Addr) : Bool := (match K.lookup C with
  | some ⟨.type t, _, .cls cd, sl⟩ => (match cd.mro, sl.toList with
    | .ref c0 :: bm, [_, _, _, _, some (.builtin n), _] => decide (t = "type") && (decide (c0 = C) && (decide (n = "ValueError.__new__") && (!cd.hasDel && (cd.hasDict && PySem.HandSPX.refsVE bm))))
    | _, _ => false)
  | _ => false) && (He.eqO (PySem.W.findIn K (.ref C) "__setattr__") (some (some (.builtin "object.__setattr__"))) && (decide (PySem.W.subIn K (.ref C) (.type "BaseException") = some true) && (decide (PySem.W.typeIn K (.ref C) = some (.type "type")) && PySem.W.keepIn K (.ref C))))
theorem oexB_ok {K : PySem.W.Frag} {C : Addr} (h : oexB K C = true) : OexC K C := by
  unfold oexB at h
  simp only [Bool.and_eq_true] at h
  obtain ⟨h1, h2, h3, h4, h5⟩ := h
  refine ⟨?_, He.eqO_ok h2, of_decide_eq_true h3, of_decide_eq_true h4, h5⟩
  split at h1
  · rename_i t dd cd sl hk
    split at h1
    · rename_i c0 bm k0 k1 k2 k3 n k5 hm hs
      simp only [Bool.and_eq_true, decide_eq_true_eq, Bool.not_eq_true'] at h1
      obtain ⟨rfl, rfl, rfl, hdel, hd, hv⟩ := h1
      obtain ⟨nm, bs, mro, ns, qn, hdct, sn, sub, ab, col, del⟩ := cd
      dsimp only at hm hdel hd
      subst hm hdel hd
      have hsl : sl = #[k0, k1, k2, k3, some (.builtin "ValueError.__new__"), k5] := by
        obtain ⟨l⟩ := sl
        simp only at hs
        rw [hs]
      subst hsl
      exact ⟨nm, qn, ns, bs, bm, sn, sub, ab, col, dd, k0, k1, k2, k3, k5, hk, hv⟩
    · cases h1
  · cases h1
section
variable {X : Cx} {e : Expr} {es : List Expr} {ta : TA} {p1 p2 pos : Pos}
/-- P.__init__(self, ..), P an own class that makes as ValueError does -/
theorem pe_clsinit {pl : Sem Bool} {x : Str} {P0 : Addr} (hg : Gl X x) (hm : X.mg x = some (.ref P0)) (hr : PySem.W.readsIn X.K P0 (.type "type") = true) (vV : PySem.W.findCls X.K (.ref P0) (.type "type") "__init__" = some (.val (.builtin "ValueError.__init__")))
    (hs : PySem.W.specialIn X.K (.ref P0) "__getattribute__" = some (some (.builtin "type.__getattribute__"))) (ha : PA X (e :: es) ta)
    (hc : eval (.Call (.Attribute (.Name x p1) "__init__" p2) (e :: es) [] pos) X.env = (do
      let ov ← eval (.Name x p1) X.env
      standAt p2.atName
      let (f, first) ← holding [ov] (getMethod ov "__init__" pl)
      callWith pos f first (backTo pos (starEach (e :: es) X.env)) (backToKw pos (keywordEach [] X.env))) := by rfl)
    (he : starEach (e :: es) X.env = (false, eval e X.env) :: starEach es X.env := by rfl) (hpl : (backTo pos (starEach es X.env)).any (·.1) = false := by rfl) (hd : (x == ("__debug__" : Str)) = false := by decide) :
    PE X (.Call (.Attribute (.Name x p1) "__init__" p2) (e :: es) [] pos) (tVeI X.K ta) := by
  refine ⟨fun pins s σ H Q I hw => ?_⟩
  refine PySem.W.methodCall_KW (ld_glob I hg hm ?_ hd) hc
  refine PySem.W.method_cls I.kIn hs (PySem.W.cls_value I.kIn hr vV (by decide +kernel) ?_)
  show wpAny _ _ (callWith pos (Value.builtin "ValueError.__init__") [] (backTo pos (starEach (e :: es) X.env)) []) _ _ _
  refine PyProof.Rows.callWith_method1 (thn (ha.run pos pins _ σ H _ (I.tok _) hw) fun us s1 hv => ?_) he hpl
  obtain ⟨vs, H1, I1, r1, a, C, ws, rfl, hl, T, ea, q⟩ := hv
  rcases r1 with _ | ⟨r0, rr⟩
  cases r0
  exact oinit_ok T I1 ea (by rw [← Paired.length rr, sizeLine_eq]; omega) fun s' J => ⟨.non, H1, J, rfl, q⟩
end
/-- bare things -/
def scalP : D → Option PyData
  | .p (.int i) => some (.int i)
  | .p (.str x) => some (.str x)
  | .p (.bool b) => some (.bool b)
  | _ => none
def scalL : List D → Option (List PyData)
  | [] => some []
  | d :: ds => match scalP d, scalL ds with
    | some p, some ps => some (p :: ps)
    | _, _ => none
theorem scalL_ok {K : Kh} {m : List Addr} {S : Sto} {H : Hp} : ∀ {ds : List D} {vs : List V} {ps : List PyData}, RDs K m S H ds vs → scalL ds = some ps → vs = ps.map sV
  | [], vs, ps, r, e => by
    cases r
    cases e
    rfl
  | d :: ds, vs, ps, r, e => by
    rcases r with _ | ⟨r1, r2⟩
    unfold scalL at e
    split at e
    · rename_i p ps' e1 e2
      cases e
      rw [List.map_cons, ← scalL_ok r2 e2]
      congr 1
      unfold scalP at e1
      split at e1
      · cases e1
        have r1 : RP _ _ _ _ _ := r1
        rw [RP] at r1; exact r1
      · cases e1
        have r1 : RP _ _ _ _ _ := r1
        rw [RP] at r1; exact r1
      · cases e1
        have r1 : RP _ _ _ _ _ := r1
        rw [RP] at r1; exact r1
      · cases e1
    · cases e
/-- what such a class's __init__ does: its fields are set, one behind another -/
def spInit (C : Addr) (n : Nat) (flds : List PyData → List (Str × PyData)) (ok : List PyData → Bool) : Sp := fun vs H Q _ => vs.length = n + 1 ∧ ∃ a ps, vs = .ref a :: ps.map sV ∧ ok ps = true ∧ H a = some (exo a C none) ∧
  ∀ d, H d = none → d ≠ a → Q .non (upd (upd H d (exd d (sVs (flds ps)))) a (exo a C (some d)))
section
variable {X : Cx} {e : Expr} {es : List Expr} {ta : TA} {p pos : Pos}
/-- C(e, ..), its __init__ keeping sp; what is made has no context -/
theorem pmk_oexN {x : Str} {C fI : Addr} {k : Nat} {fd : FuncData} {ps : List Str} {sp : Sp} (T : OexC X.K C) (iC : PySem.W.findIn X.K (.ref C) "__init__" = some (some (.ref fI))) (tI : PySem.W.typeIn X.K (.ref fI) = some (.type "function"))
    (F1 : FnOk X.prog X.w X.K X.mg X.base CX0 k fI fd ps sp) (hr : Room (k + 1) X.A) (hb : Binds X.K fd ps []) (hg : Gl X x) (hm : X.mg x = some (.ref C)) (ha : PA X (e :: es) ta)
    (hdb : (x == ("__debug__" : Str)) = false := by decide) (he : starEach (e :: es) X.env = (false, eval e X.env) :: starEach es X.env := by rfl) (hpl : (backTo pos (starEach es X.env)).any (·.1) = false := by rfl) :
    L2N.PMk X (.Call (.Name x p) (e :: es) [] pos) (tMkO C sp [] ta) := by
  intro pins s σ H Q I hw
  obtain ⟨nm, q, N, bs, bm, sn, sub, ab, col, dd, k0, k1, k2, k3, k5, hC, hbm⟩ := T.cls
  refine wpAny_Call_Name_kw (ld_glob I hg hm ?_ hdb)
  refine PySem.W.callWith_K (h₀ := X.base) I.ok.mod.kin T.kC (thn (ha.run pos pins s σ H _ I hw) fun us s1 hv => ?_) he hpl
  obtain ⟨vs, H1, I1, r1, hz, q1⟩ := hv
  refine ⟨I1.kIn, ?_⟩
  show wpAny _ _ (call (.ref C) us) _ _ _
  obtain ⟨hp, g, dr, tk, os⟩ := s1
  have up : hp.objs.size ≤ hp.objs.size + 1 := Nat.le_succ _
  have want := q1 (hp.objs.size + 1) (I1.hok.fresh up)
  rw [List.append_nil] at want
  have stay : ∀ b o, hp.get? b = some o → ((hp.push (PySem.W.kdv_tup us)).push (PySem.HandSPX.excO C hp.objs.size)).get? b = some o := fun b o e => Heap.get?_push_of_some _ (Heap.get?_push_of_some _ e)
  have here : ((hp.push (PySem.W.kdv_tup us)).push (PySem.HandSPX.excO C hp.objs.size)).get? (hp.objs.size + 1) = some (PySem.HandSPX.excO C hp.objs.size) := by heap_get
  have J2 := I1.laid (t' := tk) (a := hp.objs.size + 1) (o := exo (hp.objs.size + 1) C none) (h' := (hp.push (PySem.W.kdv_tup us)).push (PySem.HandSPX.excO C hp.objs.size)) stay up (exo_ok here)
  have rv : Vals (V.ref (hp.objs.size + 1) :: vs) (Value.ref (hp.objs.size + 1) :: us) := .cons rfl r1
  have len : (Value.ref (hp.objs.size + 1) :: us).length = ps.length := by rw [← F1.len _ _ _ _ want]; exact rv.length.symm
  have size : us.length ≤ sizeLine := by rw [← Paired.length r1, sizeLine_eq]; omega
  have bnd := hb ⟨(hp.push (PySem.W.kdv_tup us)).push (PySem.HandSPX.excO C hp.objs.size), g, dr, tk, os⟩ (Value.ref (hp.objs.size + 1) :: us) J2.kIn (by rw [List.append_nil]; exact len)
  rw [List.append_nil] at bnd
  refine wpAny_call (PySem.HandSPX.call_own F.excBase_ValueError (fun Y => PySem.HandSPX.refsVE_contains Y bm hbm) (I1.kIn _ _ hC) (PySem.W.looks_findIn I1.kIn iC) (fun self => PySem.W.bind_fn I1.kIn self tI) size
    (codeAny_mono (F1.run _ X.stack _ _ ⟨Value.ref (hp.objs.size + 1) :: us, []⟩ (Value.ref (hp.objs.size + 1) :: us) _ _ (fun _ _ _ => False) (hr.make C us []) (J2.env0.make C us []) bnd rv want) fun r s' hq => ?_))
  cases r with
  | error er => exact hq.elim
  | ok fl =>
    cases fl with
    | ret u =>
      obtain ⟨v, H2, os2, bare2, un2, hok2, ru, rfl, d, fs, ea, ed, hd1, q2⟩ := hq
      obtain ⟨h2, g2, d2, t2, os'⟩ := s'
      obtain ⟨t0, G, J, kG, ge, hoe, na⟩ := mk_end0 (d2 := d2) (t2 := t2) I1 up stay un2 hok2 os2 bare2 ea ed hd1
      exact ⟨ru, hp.objs.size + 1, _, _, ⟨G, g2, d2, t2, os'⟩, _, .ref C, some d, rfl, J, kG, ge, hoe, ⟨rfl, rfl, fun w e => by cases e; rfl⟩, rfl, rfl, na, rfl, bare2, raises_own T.exC T.tyC, q2⟩
    | next => exact hq.elim
    | brk => exact hq.elim
    | cont => exact hq.elim
/-- .. as a thing that is raised -/
def mMk (x : Str) (n : Nat) (flds : List PyData → List (Str × PyData)) (ok : List PyData → Bool) (ga : AD) : DL.Env → Sto → Rs Xc := fun ρ S => (ga ρ S).bind fun ds S1 => match scalL ds with
  | some ps => if ds.length = n ∧ ok ps = true ∧ (flds ps).isEmpty = false then .ok ⟨x, flds ps⟩ S1 else .st
  | none => .st
theorem dm_oex {x : Str} {C fI : Addr} {j k n : Nat} {fd : FuncData} {ps : List Str} {flds : List PyData → List (Str × PyData)} {ok : List PyData → Bool} {ga : AD} (T : OexC X.K C) (iC : PySem.W.findIn X.K (.ref C) "__init__" = some (some (.ref fI))) (tI : PySem.W.typeIn X.K (.ref fI) = some (.type "function"))
    (F1 : FnOk X.prog X.w X.K X.mg X.base CX0 k fI fd ps (spInit C n flds ok)) (hr : Room j X.A) (hk : k + 1 ≤ j) (hb : Binds X.K fd ps []) (hn2 : n ≤ 900) (hg : Gl X x) (hm : X.mg x = some (.ref C)) (ha : DA X (fun _ _ _ _ => False) (e :: es) ga)
    (hdb : (x == ("__debug__" : Str)) = false := by decide) (he : starEach (e :: es) X.env = (false, eval e X.env) :: starEach es X.env := by rfl) (hpl : (backTo pos (starEach es X.env)).any (·.1) = false := by rfl) :
    DM X (.Call (.Name x p) (e :: es) [] pos) (mMk x n flds ok ga) := by
  obtain ⟨t, q, i⟩ := ha
  refine ⟨_, pmk_oexN T iC tI F1 (hr.mono hk) hb hg hm q hdb he hpl, fun κ ρ S σ H m Q rl re h => ?_⟩
  refine i κ ρ S σ H m _ rl re ?_
  unfold mMk at h
  cases e1 : ga ρ S with
  | st => simp [e1] at h
  | ex _ _ => simp [e1] at h
  | ok ds S1 =>
    simp only [e1, Rs.bind_ok] at h
    intro vs H1 m1 x1 rl1 r1
    cases e2 : scalL ds with
    | none => simp [e2] at h
    | some qs =>
      simp only [e2] at h
      by_cases hok : ds.length = n ∧ ok qs = true ∧ (flds qs).isEmpty = false
      · rw [if_pos hok] at h
        obtain ⟨hl, hok, hne⟩ := hok
        have ev := scalL_ok r1 e2
        have vl : vs.length = n := by rw [← pairLen r1]; exact hl
        refine ⟨by omega, fun a na => ⟨by simp [vl], a, qs, by rw [List.append_nil, ev], hok, upd_same, fun d hd hda => ⟨rfl, d, sVs (flds qs), upd_same, ?_, ?_, ?_⟩⟩⟩
        · rw [upd_ne hda]; exact upd_same
        · rw [upd_ne hda] at hd; exact hd
        · have hd1 : H1 d = none := by rw [upd_ne hda] at hd; exact hd
          have eH : upd (del (upd (upd (upd H1 a (exo a C none)) d (exd d (sVs (flds qs)))) a (exo a C (some d))) a) d (.xd (sVs (flds qs))) = upd H1 d (.xd (sVs (flds qs))) := by
            funext b
            by_cases b1 : b = d
            · rw [b1, upd_same, upd_same]
            · rw [upd_ne b1, upd_ne b1]
              by_cases b2 : b = a
              · rw [b2, del_same, na]
              · rw [del_ne b2, upd_ne b2, upd_ne b1, upd_ne b2]
          rw [eH]
          exact h _ m1 (.ref C) (some d) (x1.trans (Nx.new rl1 hd1)) (rl1.new hd1) ⟨hm, .inr ⟨d, rfl, (fun z : flds qs = [] => by rw [z] at hne; cases hne), upd_same⟩⟩
      · rw [if_neg hok] at h
        exact h.elim
end
/-! texts cut -/
section
variable {X : Cx} {W : WX} {κ : Addr → Prop} {m : List Addr} {S : Sto} {H : Hp} {o e : Expr} {fo fe : ED} {pos apos : Pos}
theorem RDs_strs : ∀ l : List Str, RDs (KX X κ) m S H (l.map fun s => D.str s) (l.map V.str)
  | [] => .nil
  | _ :: l => .cons RD.str_ (RDs_strs l)
theorem RPs_strs {L : Addr → Prop} : ∀ l : List Str, RPs (KX X κ) H L (l.map PyData.str) (l.map V.str)
  | [] => by rw [List.map_nil, List.map_nil, RPs]
  | x :: l => by
    rw [List.map_cons, List.map_cons, RPs]
    exact ⟨_, _, rfl, by rw [RP], RPs_strs l⟩
def eSplO (fo fe : ED) : ED := fun ρ S => (fo ρ S).bind fun d S1 => match d with
  | .p (.str a) => (fe ρ S1).bind fun x S2 => (match x with
    | .p (.str b) => if (b.length == 0) = false ∧ a.length + 2 ≤ sizeLine then .ok (.ob S2.length) (S2 ++ [.lst ((Txt.split a b).map fun s => D.str s)]) else .st
    | _ => .st)
  | _ => .st
theorem de_splO (ho : DE X W o fo) (he : DE X W e fe) (hs : starEach [e] X.env = [(false, eval e X.env)] := by rfl) (hb : attributeBase o "split" X.env (eval o X.env) = eval o X.env := by rfl) (hl : (apos.endLine == pos.line) = true := by rfl) :
    DE X W (.Call (.Attribute o "split" apos) [e] [] pos) (eSplO fo fe) := by
  obtain ⟨t1, p1, i1⟩ := ho
  obtain ⟨t2, p2, i2⟩ := he
  refine ⟨_, pe_split p1 p2 hs hb hl, fun κ ρ S σ H m Q rl re h => ?_⟩
  refine i1.seq rl re h fun d S1 v H1 m1 x1 rl1 re1 r1 h1 => ?_
  split at h1
  · rename_i a
    refine ⟨⟨a, r1.str⟩, ?_⟩
    refine i2.seq rl1 re1 h1 fun d2 S2 v2 H2 m2 x2 rl2 re2 r2 h2 => ?_
    split at h2
    · rename_i b
      split at h2
      · rename_i hz
        exact ⟨a, b, r1.str, by rw [r2.str], hz.1, hz.2, fun z hz => h2.ok' (.push rl2 hz) (rl2.pushL hz (RDs_strs _)) (RD.push rl2)⟩
      · exact h2.elim
    · exact h2.elim
  · exact h1.elim
end
def cinB (K : PySem.W.Frag) (P0 : Addr) : Bool := match PySem.W.findCls K (.ref P0) (.type "type") "__init__" with
  | some (.val (.builtin n)) => decide (n = "ValueError.__init__")
  | _ => false
theorem cinB_ok {K : PySem.W.Frag} {P0 : Addr} (h : cinB K P0 = true) : PySem.W.findCls K (.ref P0) (.type "type") "__init__" = some (.val (.builtin "ValueError.__init__")) := by
  unfold cinB at h
  split at h
  · rename_i n e
    rw [e, of_decide_eq_true h]
  · cases h
theorem takes_none {X : Cx} : L2N.Takes X (fun _ _ _ _ => False) := fun _ _ z => by
  obtain ⟨_, _, _, _, _, _, _, _, _, _, _, _, _, _, _, _, z⟩ := z
  exact z.elim
/-! a text, none or one time -/
theorem op_mul_s {X : Cx} : OpR X (binaryOp .Mult) (fun x y H Q => ∃ (a : Str) (n : Int), x = .str a ∧ y = .int n ∧ ((n = 0 ∧ Q (.str Str.empty) H) ∨ (n = 1 ∧ Q (.str a) H))) := by
  intro pins s σ H x y v u Q I rx ry h
  obtain ⟨a, n, rfl, rfl, h⟩ := h
  obtain ⟨t, rfl⟩ := rx
  obtain ⟨t', rfl⟩ := ry
  rcases h with ⟨rfl, q⟩ | ⟨rfl, q⟩
  · exact P.mul_str_none (by decide) (by decide) ⟨.str Str.empty, H, I.tok _, ⟨_, rfl⟩, q⟩
  · exact P.mul_str (by decide) (fun _ h2 => by simp at h2) (fun _ h2 => by simp at h2) ⟨.str a, H, I, ⟨_, rfl⟩, q⟩
def gMulS : D → D → Sto → Rs D := fun x y S => match x, y with
  | .p (.str a), .p (.int n) => if n = 0 then .ok (.str Str.empty) S else if n = 1 then .ok (.str a) S else .st
  | _, _ => .st
theorem od_mulS {X : Cx} {W : WX} : OpD X W (binaryOp .Mult) gMulS := by
  refine ⟨_, op_mul_s, fun κ x y vx vy m S H σ Q rl rx ry h => ?_⟩
  unfold gMulS at h
  split at h
  · rename_i a n
    split at h
    · rename_i e
      exact ⟨a, n, rx.str, ry.int, .inl ⟨e, h.ok' .refl rl RD.str_⟩⟩
    · split at h
      · rename_i e
        exact ⟨a, n, rx.str, ry.int, .inr ⟨e, h.ok' .refl rl RD.str_⟩⟩
      · exact h.elim
  · exact h.elim
end DL

namespace DL
open PySem PySem.Spec PyProof.Rows L2
section
variable {X : Cx} {W : WX}
/-! ### repr of scalars; any, all, sum -/
theorem call_reprS : CallR X (.builtin "repr") (fun xs H Q => (xs = [.non] ∧ Q (.str "None") H) ∨ (∃ b : Bool, xs = [.bl b] ∧ Q (.str (if b then "True" else "False")) H) ∨ ∃ i : Int, xs = [.int i] ∧ i.natAbs.log2 < 1920 ∧ Q (.str (toString i)) H) := by
  intro pins s σ H xs us Q I r h
  rcases h with ⟨rfl, q⟩ | ⟨b, rfl, q⟩ | ⟨i, rfl, hz, q⟩
  · obtain ⟨u, rfl, e⟩ := vals1 r
    cases e
    exact PySem.P.repr_of_none ⟨.str _, H, I.tok _, ⟨_, rfl⟩, q⟩
  · obtain ⟨u, rfl, e⟩ := vals1 r
    cases e
    exact PySem.P.repr_of_bool ⟨.str _, H, I.tok _, ⟨_, rfl⟩, q⟩
  · obtain ⟨u, rfl, t, rfl⟩ := vals1 r
    exact PySem.P.repr_of_int hz ⟨.str _, H, I.tok _, ⟨_, rfl⟩, q⟩
def gRepr : FD := fun ds S => match ds with
  | [.p .none] => .ok (.str "None") S
  | [.p (.bool b)] => .ok (.str (if b then "True" else "False")) S
  | [.p (.int i)] => if i.natAbs.log2 < 1920 then .ok (.str (toString i)) S else .st
  | _ => .st
theorem cd_repr : CD X W (.builtin "repr") gRepr := by
  refine ⟨_, call_reprS, fun κ ds vs m S H σ Q rl rd h => ?_⟩
  unfold gRepr at h
  split at h
  · obtain ⟨v, rfl, r⟩ := RDs1 rd
    exact .inl ⟨by rw [r.non], h.ok' .refl rl RD.str_⟩
  · obtain ⟨v, rfl, r⟩ := RDs1 rd
    exact .inr (.inl ⟨_, by rw [r.bl], h.ok' .refl rl RD.str_⟩)
  · split at h
    · rename_i hl
      obtain ⟨v, rfl, r⟩ := RDs1 rd
      exact .inr (.inr ⟨_, by rw [r.int], hl, h.ok' .refl rl RD.str_⟩)
    · exact h.elim
  · exact h.elim
/-- bools of things -/
def bsD : List D → Option (List Bool)
  | [] => some []
  | .p (.bool b) :: l => (bsD l).map (b :: ·)
  | _ :: _ => none
def isD : List D → Option (List Int)
  | [] => some []
  | .p (.int b) :: l => (isD l).map (b :: ·)
  | _ :: _ => none
theorem bsD_ok {κ : Addr → Prop} {m : List Addr} {S : Sto} {H : Hp} : ∀ {ds : List D} {vs : List V} {bs : List Bool}, RDs (KX X κ) m S H ds vs → bsD ds = some bs → vs = bs.map V.bl
  | [], vs, bs, r, e => by cases r; cases e; rfl
  | .p (.bool b) :: l, vs, bs, r, e => by
    simp only [bsD, Option.map_eq_some_iff] at e
    obtain ⟨r', e, rfl⟩ := e
    cases r with
    | cons h1 h2 => rw [RD.bl h1, bsD_ok h2 e]; rfl
  | .p .none :: _, _, _, _, e => by cases e
  | .p (.int _) :: _, _, _, _, e => by cases e
  | .p (.str _) :: _, _, _, _, e => by cases e
  | .p (.list _) :: _, _, _, _, e => by cases e
  | .p (.tuple _) :: _, _, _, _, e => by cases e
  | .p (.dict _) :: _, _, _, _, e => by cases e
  | .ob _ :: _, _, _, _, e => by cases e
  | .scr _ :: _, _, _, _, e => by cases e
  | .xc _ _ _ :: _, _, _, _, e => by cases e
theorem isD_ok {κ : Addr → Prop} {m : List Addr} {S : Sto} {H : Hp} : ∀ {ds : List D} {vs : List V} {bs : List Int}, RDs (KX X κ) m S H ds vs → isD ds = some bs → vs = bs.map V.int
  | [], vs, bs, r, e => by cases r; cases e; rfl
  | .p (.int b) :: l, vs, bs, r, e => by
    simp only [isD, Option.map_eq_some_iff] at e
    obtain ⟨r', e, rfl⟩ := e
    cases r with
    | cons h1 h2 => rw [RD.int h1, isD_ok h2 e]; rfl
  | .p .none :: _, _, _, _, e => by cases e
  | .p (.bool _) :: _, _, _, _, e => by cases e
  | .p (.str _) :: _, _, _, _, e => by cases e
  | .p (.list _) :: _, _, _, _, e => by cases e
  | .p (.tuple _) :: _, _, _, _, e => by cases e
  | .p (.dict _) :: _, _, _, _, e => by cases e
  | .ob _ :: _, _, _, _, e => by cases e
  | .scr _ :: _, _, _, _, e => by cases e
  | .xc _ _ _ :: _, _, _, _, e => by cases e
theorem bsD_map (bs : List Bool) : bsD (bs.map fun b => D.p (.bool b)) = some bs := by
  induction bs with
  | nil => rfl
  | cons b l ih => simp [bsD, ih]
theorem isD_map (bs : List Int) : isD (bs.map fun b => D.p (.int b)) = some bs := by
  induction bs with
  | nil => rfl
  | cons b l ih => simp [isD, ih]
def gBools (f : List Bool → Bool) : FD := fun ds S => match ds with
  | [d] => (match lItems S d with
    | some l => (match bsD l with
      | some bs => .ok (.bl (f bs)) S
      | none => .st)
    | none => .st)
  | _ => .st
def gAny : FD := gBools fun bs => bs.any id
def gAll : FD := gBools fun bs => bs.all id
theorem cd_any (hc : X.calm = true) : CD X W (.builtin "any") gAny := by
  refine ⟨_, cr_any hc, fun κ ds vs m S H σ Q rl rd h => ?_⟩
  unfold gAny gBools at h
  split at h
  · split at h
    · rename_i l el
      split at h
      · rename_i bs eb
        obtain ⟨v, rfl, r⟩ := RDs1 rd
        obtain ⟨a, xs, rfl, h1, h2⟩ := r.items rl el
        rw [bsD_ok h2 eb] at h1
        exact ⟨a, bs, rfl, h1, h.ok' .refl rl RD.bl_⟩
      · exact h.elim
    · exact h.elim
  · exact h.elim
theorem cd_all (hc : X.calm = true) : CD X W (.builtin "all") gAll := by
  refine ⟨_, cr_all hc, fun κ ds vs m S H σ Q rl rd h => ?_⟩
  unfold gAll gBools at h
  split at h
  · split at h
    · rename_i l el
      split at h
      · rename_i bs eb
        obtain ⟨v, rfl, r⟩ := RDs1 rd
        obtain ⟨a, xs, rfl, h1, h2⟩ := r.items rl el
        rw [bsD_ok h2 eb] at h1
        exact ⟨a, bs, rfl, h1, h.ok' .refl rl RD.bl_⟩
      · exact h.elim
    · exact h.elim
  · exact h.elim
def gSum : FD := fun ds S => match ds with
  | [d] => (match lItems S d with
    | some l => (match isD l with
      | some bs => .ok (.int bs.sum) S
      | none => .st)
    | none => .st)
  | _ => .st
theorem cd_sum (hc : X.calm = true) : CD X W (.builtin "sum") gSum := by
  refine ⟨_, cr_sum hc, fun κ ds vs m S H σ Q rl rd h => ?_⟩
  unfold gSum at h
  split at h
  · split at h
    · rename_i l el
      split at h
      · rename_i bs eb
        obtain ⟨v, rfl, r⟩ := RDs1 rd
        obtain ⟨a, xs, rfl, h1, h2⟩ := r.items rl el
        rw [isD_ok h2 eb] at h1
        exact ⟨a, bs, rfl, h1, h.ok' .refl rl RD.int_⟩
      · exact h.elim
    · exact h.elim
  · exact h.elim
end
end DL

/-! what must hold ahead of a word, so that what is wanted holds behind it -/
namespace DL
open PySem PySem.Spec PyProof.Rows L2
def WE {α : Type} (r : Rs α) (Q : α → Sto → Prop) (E : Xc → Sto → Prop) : Prop := match r with
  | .st => False
  | .ok a S => Q a S
  | .ex x S => E x S
structure Wn where
  nx : Env → Sto → Prop
  rt : D → Sto → Prop
  bk : Env → Sto → Prop
  ct : Env → Sto → Prop
  ex : Xc → Env → Sto → Prop
def WS (o : Out) (P : Wn) : Prop := match o with
  | .st => False
  | .nx ρ S => P.nx ρ S
  | .rt d S => P.rt d S
  | .bk ρ S => P.bk ρ S
  | .ct ρ S => P.ct ρ S
  | .ex x ρ S => P.ex x ρ S
section
variable {α β : Type} {ρ : Env} {S S1 : Sto} {Q : α → Sto → Prop} {E : Xc → Sto → Prop} {P : Wn}
theorem WE_ok {a : α} : WE (.ok a S) Q E = Q a S := rfl
theorem WE_st : WE (.st : Rs α) Q E = False := rfl
theorem WE_ex {x : Xc} : WE (.ex x S : Rs α) Q E = E x S := rfl
theorem WE_bind {r : Rs β} {f : β → Sto → Rs α} : WE (Rs.bind r f) Q E = WE r (fun a S => WE (f a S) Q E) E := by cases r <;> rfl
theorem WE_ite {c : Prop} [Decidable c] {r s : Rs α} : WE (if c then r else s) Q E = if c then WE r Q E else WE s Q E := by split <;> rfl
theorem WE_no {r : Rs D} {Q : D → Sto → Prop} : WE (noEx r) Q E = WE r Q (fun _ _ => False) := by cases r <;> rfl
theorem WE_of {r : Rs α} {a : α} (e : r = .ok a S) (q : Q a S) : WE r Q E := by rw [e]; exact q
theorem WE_mono {r : Rs α} {Q' : α → Sto → Prop} {E' : Xc → Sto → Prop} (h : WE r Q' E') (hq : ∀ a S, Q' a S → Q a S) (he : ∀ x S, E' x S → E x S) : WE r Q E := by
  cases r with
  | st => exact h
  | ok a S => exact hq _ _ h
  | ex x S => exact he _ _ h
theorem WE_get {r : Rs D} {Q : D → Sto → Prop} (h : WE r Q (fun _ _ => False)) : ∃ d S, r = .ok d S ∧ Q d S := by
  cases r with
  | st => exact h.elim
  | ok a S => exact ⟨a, S, rfl, h⟩
  | ex x S => exact h.elim
theorem WS_nx : WS (.nx ρ S) P = P.nx ρ S := rfl
theorem WS_rt {d : D} : WS (.rt d S) P = P.rt d S := rfl
theorem WS_bk : WS (.bk ρ S) P = P.bk ρ S := rfl
theorem WS_ct : WS (.ct ρ S) P = P.ct ρ S := rfl
theorem WS_ex {x : Xc} : WS (.ex x ρ S) P = P.ex x ρ S := rfl
theorem WS_lift {r : Rs α} {k : α → Sto → Out} : WS (liftS ρ r k) P = WE r (fun a S => WS (k a S) P) (fun x S => P.ex x ρ S) := by cases r <;> rfl
theorem WS_seq {o : Out} {t : SD} : WS (seqO o t) P = WS o ⟨fun ρ S => WS (t ρ S) P, P.rt, P.bk, P.ct, P.ex⟩ := by cases o <;> rfl
theorem WS_ite {c : Prop} [Decidable c] {r s : Out} : WS (if c then r else s) P = if c then WS r P else WS s P := by split <;> rfl
theorem WS_of {o o' : Out} (e : o = o') (h : WS o' P) : WS o P := e ▸ h
theorem WS_mono {o : Out} {P' : Wn} (h : WS o P') (h1 : ∀ ρ S, P'.nx ρ S → P.nx ρ S) (h2 : ∀ ρ S, P'.rt ρ S → P.rt ρ S) (h3 : ∀ ρ S, P'.bk ρ S → P.bk ρ S) (h4 : ∀ ρ S, P'.ct ρ S → P.ct ρ S) (h5 : ∀ x ρ S, P'.ex x ρ S → P.ex x ρ S) : WS o P := by
  cases o with
  | st => exact h
  | nx ρ S => exact h1 _ _ h
  | rt d S => exact h2 _ _ h
  | bk ρ S => exact h3 _ _ h
  | ct ρ S => exact h4 _ _ h
  | ex x ρ S => exact h5 _ _ _ h
/-- a def -/
theorem WE_gB {N : List Str} {F : SD} {ds : List D} {Q : D → Sto → Prop} (h : WS (F (start0 N ds) S) ⟨fun _ S' => WE (pick S S' .non) Q E, fun d S' => WE (pick S S' d) Q E, fun _ _ => False, fun _ _ => False, fun x _ S' => WE (pickX S S' x) Q E⟩) : WE (gB N F ds S) Q E := by
  unfold gB
  cases e : F (start0 N ds) S with
  | st => rw [e] at h; exact h
  | nx ρ S => rw [e] at h; exact h
  | rt d S => rw [e] at h; exact h
  | bk ρ S => rw [e] at h; exact h.elim
  | ct ρ S => rw [e] at h; exact h.elim
  | ex x ρ S => rw [e] at h; exact h
theorem clS_nil {k : Nat} : ClS k [] := fun _ h => by cases h
theorem clS_set {k n : Nat} {S : Sto} {o : O} (h : ClS k S) (ho : ClO k o) : ClS k (S.set n o) := fun x hx => by
  rcases List.mem_or_eq_of_mem_set hx with h' | rfl
  · exact h x h'
  · exact ho
theorem clS_app {k : Nat} {S T : Sto} (h : ClS k S) (h2 : ClS k T) : ClS k (S ++ T) := fun x hx => by
  rcases List.mem_append.mp hx with h' | h'
  · exact h x h'
  · exact h2 x h'
theorem clS_one {k : Nat} {o : O} (h : ClO k o) : ClS k [o] := fun x hx => by
  rw [List.mem_singleton.mp hx]
  exact h
theorem clS_cons {k : Nat} {o : O} {T : Sto} (h : ClO k o) (h2 : ClS k T) : ClS k (o :: T) := fun x hx => by
  rcases List.mem_cons.mp hx with rfl | h'
  · exact h
  · exact h2 x h'
theorem clO_p {k : Nat} {l : List PyData} : ClO k (.lst (l.map .p)) := fun d hd => by
  obtain ⟨p, _, rfl⟩ := List.mem_map.mp hd
  trivial
theorem clO_nil {k : Nat} : ClO k (.lst []) := fun d hd => by cases hd
theorem clO_fz {k : Nat} {l : List PyData} : ClO k (.fz l) := trivial
theorem clD_mono {k k' : Nat} {d : D} (hk : k ≤ k') (q : ClD k d) : ClD k' d := by
  cases d with
  | ob n => exact Nat.lt_of_lt_of_le q hk
  | _ => trivial
theorem clS_mono {k k' : Nat} {S : Sto} (hk : k ≤ k') (h : ClS k S) : ClS k' S := by
  intro o ho
  have q := h o ho
  cases o with
  | lst l => exact fun d hd => clD_mono hk (q d hd)
  | fz l => trivial
  | dic l => exact fun d hd => clD_mono hk (q d hd)
theorem WE_pick {S2 : Sto} {d : PyData} {Q : D → Sto → Prop} (hl : S2.length = S.length) (hc : ClS 0 S2) (q : Q (.p d) S2) : WE (pick S S2 (.p d)) Q E := by
  unfold pick
  rw [show S2.take S.length = S2 by rw [← hl, List.take_length]]
  rw [if_pos ⟨by omega, clS_mono (Nat.zero_le _) hc, trivial⟩]
  exact q
theorem WE_pickT {S2 T : Sto} {d : PyData} {Q : D → Sto → Prop} (hl : S2.length = S.length) (hc : ClS 0 S2) (q : Q (.p d) S2) : WE (pick S (S2 ++ T) (.p d)) Q E := by
  unfold pick
  rw [take_left' hl]
  rw [if_pos ⟨by rw [List.length_append]; omega, clS_mono (Nat.zero_le _) hc, trivial⟩]
  exact q
/-- the store as it was, with what was added dropped -/
theorem WE_pickD {S2 : Sto} {d : PyData} {Q : D → Sto → Prop} (hl : S.length ≤ S2.length) (hc : ClS 0 (S2.take S.length)) (q : Q (.p d) (S2.take S.length)) : WE (pick S S2 (.p d)) Q E := by
  unfold pick
  rw [if_pos ⟨hl, clS_mono (Nat.zero_le _) hc, trivial⟩]
  exact q
/-- a loop -/
theorem WS_for {g : GD} {body : SD} {chk : Sto → Prop} (I : Nat → Env → Sto → Prop) : ∀ (ds : List D) (k : Nat) (ρ : Env) (S : Sto), I k ρ S →
    (∀ i d ρ S, ds[i]? = some d → I (k + i) ρ S → WE (g d ρ S) (fun ρ1 S1 => WS (body ρ1 S1) ⟨fun ρ S => chk S ∧ I (k + i + 1) ρ S, P.rt, P.nx, fun ρ S => chk S ∧ I (k + i + 1) ρ S, P.ex⟩) (fun _ _ => False)) →
    (∀ ρ S, I (k + ds.length) ρ S → P.nx ρ S) → WS (forL g body chk ds ρ S) P
  | [], k, ρ, S, h0, _, hn => hn ρ S h0
  | d :: ds, k, ρ, S, h0, hs, hn => by
    have q := hs 0 d ρ S rfl h0
    unfold forL
    cases e : g d ρ S with
    | st => rw [e] at q; exact q.elim
    | ex x S1 => rw [e] at q; exact q.elim
    | ok ρ1 S1 =>
      rw [e] at q
      have q : WS (body ρ1 S1) _ := q
      have ih := fun ρ2 S2 h => WS_for (body := body) (chk := chk) (g := g) I ds (k + 1) ρ2 S2 h (fun i d ρ S e h => by
        have := hs (i + 1) d ρ S e (by rw [show k + (i + 1) = k + 1 + i by omega]; exact h)
        rw [show k + (i + 1) = k + 1 + i by omega] at this
        exact this) (fun ρ S h => hn ρ S (by rw [List.length_cons, show k + (ds.length + 1) = k + 1 + ds.length by omega]; exact h))
      dsimp only
      cases e2 : body ρ1 S1 with
      | st => rw [e2] at q; exact q.elim
      | nx ρ2 S2 =>
        rw [e2] at q
        have q : chk S2 ∧ I (k + 0 + 1) ρ2 S2 := q
        simp only [q.1, if_true]
        exact ih ρ2 S2 q.2
      | ct ρ2 S2 =>
        rw [e2] at q
        have q : chk S2 ∧ I (k + 0 + 1) ρ2 S2 := q
        simp only [q.1, if_true]
        exact ih ρ2 S2 q.2
      | bk ρ2 S2 => rw [e2] at q; exact q
      | rt d2 S2 => rw [e2] at q; exact q
      | ex x ρ2 S2 => rw [e2] at q; exact q
/-- a list comprehension -/
theorem WE_lc {g : GD} {c : BD} {f : ED} {chk : Sto → Prop} {ρ0 : Env} {Q : D → Sto → Prop} (I : Nat → List PyData → Sto → Prop) : ∀ (ds : List D) (k : Nat) (acc : List PyData) (S : Sto), I k acc S →
    (∀ i d acc S, ds[i]? = some d → I (k + i) acc S → WE (g d ρ0 S) (fun ρ1 S1 => WE (c ρ1 S1) (fun b S2 => if b = true then WE (f ρ1 S2) (fun y S3 => ∃ p S4, restD y S3 = some (p, S4) ∧ acc.length < sizeLine ∧ chk S4 ∧ I (k + i + 1) (acc ++ [p]) S4) (fun _ _ => False) else chk S2 ∧ I (k + i + 1) acc S2) (fun _ _ => False)) (fun _ _ => False)) →
    (∀ acc S, I (k + ds.length) acc S → Q (.lst acc) S) → WE (okL (lcL g c f chk ρ0 ds acc S)) Q E
  | [], k, acc, S, h0, _, hn => hn acc S h0
  | d :: ds, k, acc, S, h0, hs, hn => by
    have q := hs 0 d acc S rfl h0
    have ih := fun acc2 S2 h => WE_lc (g := g) (c := c) (f := f) (chk := chk) (ρ0 := ρ0) I ds (k + 1) acc2 S2 h (fun i d ρ S e h => by
        have := hs (i + 1) d ρ S e (by rw [show k + (i + 1) = k + 1 + i by omega]; exact h)
        rw [show k + (i + 1) = k + 1 + i by omega] at this
        exact this) (fun ρ S h => hn ρ S (by rw [List.length_cons, show k + (ds.length + 1) = k + 1 + ds.length by omega]; exact h))
    unfold lcL
    cases e : g d ρ0 S with
    | st => rw [e] at q; exact q.elim
    | ex x S1 => rw [e] at q; exact q.elim
    | ok ρ1 S1 =>
      rw [e] at q
      have q : WE (c ρ1 S1) _ _ := q
      dsimp only
      cases e2 : c ρ1 S1 with
      | st => rw [e2] at q; exact q.elim
      | ex x S1 => rw [e2] at q; exact q.elim
      | ok b S2 =>
        rw [e2] at q
        cases b with
        | false =>
          have q : chk S2 ∧ I (k + 0 + 1) acc S2 := q
          simp only [q.1, if_true]
          exact ih acc S2 q.2
        | true =>
          have q : WE (f ρ1 S2) _ _ := q
          dsimp only
          cases e3 : f ρ1 S2 with
          | st => rw [e3] at q; exact q.elim
          | ex x S1 => rw [e3] at q; exact q.elim
          | ok y S3 =>
            rw [e3] at q
            obtain ⟨p, S4, q1, q2, q3, q4⟩ := q
            simp only [q1, q2, q3, and_self, if_true]
            exact ih _ _ q4
theorem WE_true {r : Rs D} (h : WE r (fun d _ => d = .bl true) (fun _ _ => False)) : ∃ S', r = .ok (.bl true) S' := by
  obtain ⟨d, S', e, rfl⟩ := WE_get h
  exact ⟨S', e⟩
/-- an item of a list, at a drawn place -/
theorem atI_in {α : Type} {l : List α} {v : Int} (h0 : 0 ≤ v) (h1 : v < l.length) : ∃ d, atI l v = some d ∧ d ∈ l := by
  obtain ⟨k, rfl⟩ : ∃ k : Nat, v = k := ⟨v.toNat, by omega⟩
  rw [atI_nat']
  have hk : k < l.length := by omega
  exact ⟨l[k], List.getElem?_eq_getElem hk, List.getElem_mem hk⟩
end
end DL
namespace DL
open PySem PySem.Spec PyProof.Rows L2
theorem bYes_ap {ρ : Env} {S : Sto} : bYes ρ S = .ok true S := rfl
theorem start0_eq {N : List Str} {ds : List D} : start0 N ds = ds.map some ++ List.replicate (N.length - ds.length) none := rfl
end DL
namespace DL
open PySem PySem.Spec PyProof.Rows L2
/-- a word in between -/
theorem WS_cut {s t : SD} {ρ : Env} {S : Sto} {P : Wn} (M : Env → Sto → Prop) (h1 : WS (s ρ S) ⟨M, P.rt, P.bk, P.ct, P.ex⟩) (h2 : ∀ ρ S, M ρ S → WS (t ρ S) P) : WS (sSeq s t ρ S) P := by
  rw [sSeq_ap, WS_seq]
  exact WS_mono h1 h2 (fun _ _ h => h) (fun _ _ h => h) (fun _ _ h => h) (fun _ _ _ h => h)
theorem clO_app {k : Nat} {l : List D} {d : D} (h : ClO k (.lst l)) (hd : ClD k d) : ClO k (.lst (l ++ [d])) := fun x hx => by
  rcases List.mem_append.mp hx with z | z
  · exact h x z
  · rw [List.mem_singleton.mp z]; exact hd
end DL
namespace DL
open PySem PySem.Spec PyProof.Rows L2
theorem gIsN_ap {neg : Bool} {a : PyData} {S : Sto} : gIsN neg (.p a) (.p .none) S = .ok (.bl (neg ^^ isNoneD a)) S := rfl
theorem isNoneD_int {i : Int} : isNoneD (.int i) = false := rfl
theorem isNoneD_none : isNoneD .none = true := rfl
end DL
namespace DL
open PySem PySem.Spec PyProof.Rows L2
/-- a def that hands plain data back: what is known of it and of the store at the end -/
theorem WE_def {N : List Str} {F : SD} {ds : List D} {S : Sto} {Q : D → Sto → Prop} {E : Xc → Sto → Prop} (R : D → Sto → Prop)
    (h : WS (F (start0 N ds) S) ⟨fun _ S' => R .non S', R, fun _ _ => False, fun _ _ => False, fun _ _ _ => False⟩)
    (hR : ∀ d S', R d S' → ∃ p S2 T, d = .p p ∧ S' = S2 ++ T ∧ S2.length = S.length ∧ ClS 0 S2 ∧ Q (.p p) S2) : WE (gB N F ds S) Q E := by
  refine WE_gB (WS_mono h (fun _ S' r => ?_) (fun d S' r => ?_) (fun _ _ z => z.elim) (fun _ _ z => z.elim) (fun _ _ _ z => z.elim))
  · obtain ⟨p, S2, T, e, rfl, h1, h2, q⟩ := hR _ _ r
    show WE (pick S (S2 ++ T) .non) Q E
    rw [e]
    exact WE_pickT h1 h2 q
  · obtain ⟨p, S2, T, rfl, rfl, h1, h2, q⟩ := hR _ _ r
    exact WE_pickT h1 h2 q
end DL
namespace DL
open PySem PySem.Spec PyProof.Rows L2
def andR (x : D) (r : Rs D) (S : Sto) : Rs D := match x with
  | .p (.bool b) => if b = true then r else .ok (.bl false) S
  | _ => .st
def orR (x : D) (r : Rs D) (S : Sto) : Rs D := match x with
  | .p (.bool b) => if b = true then .ok (.bl true) S else r
  | _ => .st
def notR (x : D) (S : Sto) : Rs D := match x with
  | .p (.bool b) => .ok (.bl (!b)) S
  | _ => .st
theorem eAnd_wp {f g : ED} {ρ : Env} {S : Sto} : eAnd f g ρ S = (f ρ S).bind fun x S1 => andR x (g ρ S1) S1 := by
  unfold eAnd
  congr 1
  funext x S1
  cases x with
  | p d => cases d with
    | bool b => cases b <;> rfl
    | _ => rfl
  | ob _ => rfl
  | scr _ => rfl
  | xc _ _ _ => rfl
theorem eOr_wp {f g : ED} {ρ : Env} {S : Sto} : eOr f g ρ S = (f ρ S).bind fun x S1 => orR x (g ρ S1) S1 := by
  unfold eOr
  congr 1
  funext x S1
  cases x with
  | p d => cases d with
    | bool b => cases b <;> rfl
    | _ => rfl
  | ob _ => rfl
  | scr _ => rfl
  | xc _ _ _ => rfl
theorem eNot_wp {f : ED} {ρ : Env} {S : Sto} : eNot f ρ S = (f ρ S).bind fun x S1 => notR x S1 := by
  unfold eNot
  congr 1
theorem andR_bl {b : Bool} {r : Rs D} {S : Sto} : andR (.p (.bool b)) r S = if b = true then r else .ok (.bl false) S := rfl
theorem orR_bl {b : Bool} {r : Rs D} {S : Sto} : orR (.p (.bool b)) r S = if b = true then .ok (.bl true) S else r := rfl
theorem notR_bl {b : Bool} {S : Sto} : notR (.p (.bool b)) S = .ok (.bl (!b)) S := rfl
theorem gAny_lst {bs : List Bool} {S : Sto} : gAny [.p (.list (bs.map .bool))] S = .ok (.bl (bs.any id)) S := by
  unfold gAny gBools
  have e : lItems S (.p (.list (bs.map .bool))) = some (bs.map fun b => D.p (.bool b)) := by
    show some ((bs.map PyData.bool).map D.p) = _
    rw [List.map_map]; rfl
  simp only [e, bsD_map]
theorem gAll_lst {bs : List Bool} {S : Sto} : gAll [.p (.list (bs.map .bool))] S = .ok (.bl (bs.all id)) S := by
  unfold gAll gBools
  have e : lItems S (.p (.list (bs.map .bool))) = some (bs.map fun b => D.p (.bool b)) := by
    show some ((bs.map PyData.bool).map D.p) = _
    rw [List.map_map]; rfl
  simp only [e, bsD_map]
theorem gSum_lst {bs : List Int} {S : Sto} : gSum [.p (.list (bs.map .int))] S = .ok (.int bs.sum) S := by
  unfold gSum
  have e : lItems S (.p (.list (bs.map .int))) = some (bs.map fun b => D.p (.int b)) := by
    show some ((bs.map PyData.int).map D.p) = _
    rw [List.map_map]; rfl
  simp only [e, isD_map]
theorem chkOf_p {d : PyData} {l : List D} {S : Sto} : chkOf (.p d) l S = True := rfl
theorem lItems_lst {l : List PyData} {S : Sto} : lItems S (.p (.list l)) = some (l.map .p) := rfl
end DL

namespace DL
open PySem PySem.Spec PyProof.Rows L2
section
variable {X : Cx} {W : WX}
/-! ### in a tuple of data -/
def rInTp (neg : Bool) (K : PySem.W.Frag) : R2 := fun v w H Q => ∃ d l, Dp K H v d ∧ Dp K H w (.tuple l) ∧ (SeqAt.shaped d = true ∧ SeqAt.shaped (.tuple l) = true) ∧ Q (.bl (neg ^^ l.any fun z => PyData.eqv z d)) H
theorem op_inTp (room : X.A.units + 65 < cLine) : OpR X (compareOp .In) (rInTp false X.K) := by
  intro pins s σ H v w pv pw Q I rv rw' ⟨d, l, dv, dl, ⟨sd, sl⟩, q⟩
  obtain ⟨_, r1⟩ := Dp.reads I d v pv dv rv
  obtain ⟨_, r2⟩ := Dp.reads I _ w pw dl rw'
  refine SeqAt.in_tuple_reads r2 r1 (SeqAt.canLay_of_shaped sl) (SeqAt.canLay_of_shaped sd) (room_in_shaped sd room) ⟨.bl _, H, I, rfl, ?_⟩
  simpa using q
theorem op_notInTp (room : X.A.units + 65 < cLine) : OpR X (compareOp .NotIn) (rInTp true X.K) := by
  intro pins s σ H v w pv pw Q I rv rw' ⟨d, l, dv, dl, ⟨sd, sl⟩, q⟩
  obtain ⟨_, r1⟩ := Dp.reads I d v pv dv rv
  obtain ⟨_, r2⟩ := Dp.reads I _ w pw dl rw'
  refine SeqAt.notIn_tuple_reads r2 r1 (SeqAt.canLay_of_shaped sl) (SeqAt.canLay_of_shaped sd) (room_in_shaped sd room) ⟨.bl _, H, I, rfl, ?_⟩
  simpa using q
def gInT (neg : Bool) : D → D → Sto → Rs D := fun x y S => match y with
  | .p (.tuple l) => (match pNow S x with
    | some d => if SeqAt.shaped d = true ∧ SeqAt.shaped (.tuple l) = true then .ok (.bl (neg ^^ l.any fun z => PyData.eqv z d)) S else .st
    | none => .st)
  | y => gIn neg x y S
theorem od_inT (hu : X.A.units + 65 < cLine) : OpD X W (compareOp .In) (gInT false) := by
  obtain ⟨r, hr, h0⟩ := od_in (X := X) (W := W) hu
  refine ⟨_, OpR.or hr (op_inTp hu), fun κ x y vx vy m S H σ Q rl rx ry h => ?_⟩
  unfold gInT at h
  split at h
  · split at h
    · split at h
      · rename_i e hs
        exact .inr ⟨_, _, rx.now rl e, RP.dp _ _ ry, hs, h.ok' .refl rl RD.bl_⟩
      · exact h.elim
    · exact h.elim
  · exact .inl (h0 κ x y vx vy m S H σ Q rl rx ry h)
theorem od_notinT (hu : X.A.units + 65 < cLine) : OpD X W (compareOp .NotIn) (gInT true) := by
  obtain ⟨r, hr, h0⟩ := od_notin (X := X) (W := W) hu
  refine ⟨_, OpR.or hr (op_notInTp hu), fun κ x y vx vy m S H σ Q rl rx ry h => ?_⟩
  unfold gInT at h
  split at h
  · split at h
    · split at h
      · rename_i e hs
        exact .inr ⟨_, _, rx.now rl e, RP.dp _ _ ry, hs, h.ok' .refl rl RD.bl_⟩
      · exact h.elim
    · exact h.elim
  · exact .inl (h0 κ x y vx vy m S H σ Q rl rx ry h)
theorem gInT_tup {neg : Bool} {d : PyData} {l : List PyData} {S : Sto} (hd : SeqAt.shaped d = true) (hl : SeqAt.shaped (.tuple l) = true) : gInT neg (.p d) (.p (.tuple l)) S = .ok (.bl (neg ^^ l.any fun z => PyData.eqv z d)) S := by
  show (if _ then _ else _) = _
  rw [if_pos ⟨hd, hl⟩]
end
end DL
namespace DL
open PySem PySem.Spec PyProof.Rows L2
section
variable {X : Cx} {W : WX}
/-- two lists in one that will change -/
def gAddO : D → D → Sto → Rs D := fun x y S => match vList S x, vList S y with
  | some a, some b => if a.length + b.length ≤ sizeLine then .ok (.ob S.length) (S ++ [.lst ((a ++ b).map .p)]) else .st
  | _, _ => .st
theorem od_addO : OpD X W (binaryOp .Add) gAddO := by
  refine ⟨_, op_cat, fun κ x y vx vy m S H σ Q rl rx ry h => ?_⟩
  unfold gAddO at h
  split at h
  · rename_i a b ea eb
    split at h
    · rename_i hl
      obtain ⟨p, xs, rfl, hx, rx⟩ := rx.vlist rl ea
      obtain ⟨q, ys, rfl, hy, ry⟩ := ry.vlist rl eb
      exact ⟨p, q, xs, ys, rfl, rfl, hx, hy, by rw [← RPs_len rx, ← RPs_len ry]; exact hl, fun z hz => h.ok' (.push rl hz) (rl.pushL hz (RDs_p.mpr (RPs_app rx ry))) (RD.push rl)⟩
    · exact h.elim
  · exact h.elim
end
end DL

/-! dicts whose keys are tuples of ints and texts; tuples of any depth compared -/
namespace DL
open PySem PySem.Spec PyProof.Rows L2
def keyP : PyData → Option Key
  | .int i => some (.inl i)
  | .str x => some (.inr x)
  | _ => none
def keyL : List PyData → Option (List Key)
  | [] => some []
  | d :: l => match keyP d, keyL l with
    | some k, some ks => some (k :: ks)
    | _, _ => none
def keyD : D → Option (List Key)
  | .p (.tuple l) => keyL l
  | _ => none
def valD (kvs : List (List Key × D)) (k : List Key) : Option D := (kvs.find? fun kv => decide (kv.1 = k)).map (·.2)
def setD (kvs : List (List Key × D)) (k : List Key) (v : D) : List (List Key × D) :=
  if (kvs.any fun kv => decide (kv.1 = k)) = true then kvs.map (fun kv => if kv.1 = k then (kv.1, v) else kv) else kvs ++ [(k, v)]
section
variable {X : Cx} {W : WX} {m m1 : List Addr} {S S1 : Sto} {H H1 : Hp} {σ : St} {κ : Addr → Prop}
theorem keyL_ok {L : Addr → Prop} : ∀ {l : List PyData} {vs : List V} {k : List Key}, RPs (KX X κ) H L l vs → keyL l = some k → vs = k.map kV
  | [], vs, k, r, e => by
    rw [RPs] at r
    subst r
    cases e
    rfl
  | d :: l, vs, k, r, e => by
    rw [RPs] at r
    obtain ⟨v, r', rfl, h1, h2⟩ := r
    unfold keyL at e
    split at e
    · rename_i a b ea eb
      cases e
      rw [List.map_cons, ← keyL_ok h2 eb]
      congr 1
      unfold keyP at ea
      split at ea
      · cases ea
        rw [RP] at h1
        exact h1
      · cases ea
        rw [RP] at h1
        exact h1
      · cases ea
    · cases e
theorem RD.key {y : D} {v : V} {k : List Key} (h : RD (KX X κ) m S H y v) (e : keyD y = some k) : ∃ b, v = .ref b ∧ H b = some (.tup (k.map kV)) := by
  unfold keyD at e
  split at e
  · obtain ⟨b, vs, rfl, h1, h2⟩ := h.tup'
    rw [keyL_ok h2 e] at h1
    exact ⟨b, rfl, h1⟩
  · cases e
theorem val_pair {kvs : List (List Key × D)} {ws : List (List Key × V)} (r : RKV (KX X κ) m S H kvs ws) (k : List Key) :
    (valD kvs k = none ∧ valV ws k = none) ∨ ∃ d v, valD kvs k = some d ∧ valV ws k = some v ∧ RD (KX X κ) m S H d v := by
  induction r with
  | nil => exact .inl ⟨rfl, rfl⟩
  | @cons p q l l' h _ ih =>
    by_cases e : p.1 = k
    · have e2 : q.1 = k := h.1.symm.trans e
      exact .inr ⟨p.2, q.2, by simp [valD, List.find?_cons, e], valV_pos e2, h.2⟩
    · have e2 : ¬ q.1 = k := fun z => e (h.1.trans z)
      rw [valV_neg e2]
      have : valD (p :: l) k = valD l k := by simp [valD, List.find?_cons, e]
      rw [this]
      exact ih
theorem any_pair {kvs : List (List Key × D)} {ws : List (List Key × V)} (r : RKV (KX X κ) m S H kvs ws) (k : List Key) : (kvs.any fun kv => decide (kv.1 = k)) = (ws.any fun kv => decide (kv.1 = k)) := by
  induction r with
  | nil => rfl
  | @cons p q l l' h _ ih => rw [List.any_cons, List.any_cons, ih, h.1]
theorem map_pair {kvs : List (List Key × D)} {ws : List (List Key × V)} (r : RKV (KX X κ) m S H kvs ws) (k : List Key) {d : D} {v : V} (rd : RD (KX X κ) m S H d v) :
    RKV (KX X κ) m S H (kvs.map (fun kv => if kv.1 = k then (kv.1, d) else kv)) (ws.map (fun kv => if kv.1 = k then (kv.1, v) else kv)) := by
  induction r with
  | nil => exact .nil
  | @cons p q l l' h _ ih =>
    refine .cons ?_ ih
    show (if p.1 = k then (p.1, d) else p).1 = (if q.1 = k then (q.1, v) else q).1 ∧ RD (KX X κ) m S H (if p.1 = k then (p.1, d) else p).2 (if q.1 = k then (q.1, v) else q).2
    by_cases e : p.1 = k
    · have e2 : q.1 = k := h.1.symm.trans e
      rw [if_pos e, if_pos e2]
      exact ⟨h.1, rd⟩
    · have e2 : ¬ q.1 = k := fun z => e (h.1.trans z)
      rw [if_neg e, if_neg e2]
      exact h
theorem set_pair {kvs : List (List Key × D)} {ws : List (List Key × V)} (r : RKV (KX X κ) m S H kvs ws) (k : List Key) {d : D} {v : V} (rd : RD (KX X κ) m S H d v) : RKV (KX X κ) m S H (setD kvs k d) (putK ws k v) := by
  unfold setD putK
  rw [any_pair r k]
  split
  · exact map_pair r k rd
  · exact pairApp r (.cons ⟨rfl, rd⟩ .nil)
/-! ### {} -/
def eDNew : ED := fun _ S => .ok (.ob S.length) (S ++ [.dic []])
theorem de_dnew {pos : Pos} : DE X W (.Dict [] [] pos) eDNew :=
  ⟨_, pe_dnewT, fun κ ρ S σ H m Q rl re h p hp => h.ok' (.push rl hp) (rl.push hp ⟨[], upd_same, .nil⟩) (RD.push rl)⟩
def dicO (S : Sto) : D → Option (List (List Key × D))
  | .ob n => match S[n]? with
    | some (.dic kvs) => some kvs
    | _ => none
  | _ => none
theorem RD.dic {d : D} {v : V} {kvs : List (List Key × D)} (r : Rl (KX X κ) m S H) (h : RD (KX X κ) m S H d v) (e : dicO S d = some kvs) : ∃ n a ws, d = .ob n ∧ m[n]? = some a ∧ S[n]? = some (.dic kvs) ∧ v = .ref a ∧ H a = some (.dT ws) ∧ RKV (KX X κ) m S H kvs ws := by
  unfold dicO at e
  split at e
  · rename_i n
    split at e
    · rename_i q
      cases e
      obtain ⟨a, em, rfl⟩ := h
      obtain ⟨ws, h1, h2⟩ := r.obj n a _ em q
      exact ⟨n, a, ws, rfl, em, q, rfl, h1, h2⟩
    · cases e
  · cases e
/-- d[k] -/
def gDIx : D → D → Sto → Rs D := fun x y S => match dicO S x, keyD y with
  | some kvs, some k => (match valD kvs k with
    | some d => .ok d S
    | none => .st)
  | _, _ => .st
theorem de_dix {a b : Expr} {pos : Pos} {fa fb : ED} (hu : X.A.units + 65 < cLine) (ha : DE X W a fa) (hb : DE X W b fb) (hs : NoSl b) : DE X W (.Subscript a b pos) (eBin gDIx fa fb) := by
  obtain ⟨ta, pa, ia⟩ := ha
  obtain ⟨tb, pb, ib⟩ := hb
  refine ⟨_, pe_dget (by omega) pa pb hs, fun κ ρ S σ H m Q rl re h => ?_⟩
  refine ia.seq rl re h fun x S1 vx H1 m1 x1 rl1 re1 r1 h1 => ?_
  refine ib.seq rl1 re1 h1 fun y S2 vy H2 m2 x2 rl2 re2 r2 h2 => ?_
  have r1 := r1.nx x2
  unfold gDIx at h2
  split at h2
  · rename_i kvs k e1 e2
    split at h2
    · rename_i d e3
      obtain ⟨n, p, ws, rfl, _, _, rfl, h3, h4⟩ := r1.dic rl2 e1
      obtain ⟨b, rfl, hb⟩ := r2.key e2
      rcases val_pair h4 k with ⟨z, _⟩ | ⟨d', v, z1, z2, z3⟩
      · rw [e3] at z; cases z
      · rw [e3] at z1
        cases z1
        have g := DGet.t (k := k) h3 hb
        rw [z2] at g
        exact ⟨p, v, rfl, g, h2.ok' .refl rl2 z3⟩
    · exact h2.elim
  · exact h2.elim
/-- k in d -/
theorem op_inDc (hu : X.A.units + 1 < cLine) : OpR X (compareOp .In) (fun x y H Q => ∃ a o, y = .ref a ∧ DGet H a x o ∧ Q (.bl o.isSome) H) := by
  intro pins s σ H x y v u Q I rx ry ⟨a, o, e, g, q⟩
  subst e
  obtain rfl : u = Value.ref a := ry
  exact d_in hu I g rx fun s1 I1 => ⟨.bl _, H, I1, rfl, q⟩
theorem op_notInDc (hu : X.A.units + 1 < cLine) : OpR X (compareOp .NotIn) (fun x y H Q => ∃ a o, y = .ref a ∧ DGet H a x o ∧ Q (.bl (!o.isSome)) H) := by
  intro pins s σ H x y v u Q I rx ry ⟨a, o, e, g, q⟩
  subst e
  obtain rfl : u = Value.ref a := ry
  exact d_notIn hu I g rx fun s1 I1 => ⟨.bl _, H, I1, rfl, q⟩
def gInA (neg : Bool) : D → D → Sto → Rs D := fun x y S => match dicO S y with
  | some kvs => (match keyD x with
    | some k => .ok (.bl (neg ^^ (valD kvs k).isSome)) S
    | none => .st)
  | none => gInT neg x y S
theorem get_dic {x y : D} {vx vy : V} {kvs : List (List Key × D)} {k : List Key} (rl : Rl (KX X κ) m S H) (rx : RD (KX X κ) m S H x vx) (ry : RD (KX X κ) m S H y vy) (e1 : dicO S y = some kvs) (e2 : keyD x = some k) :
    ∃ a o, vy = .ref a ∧ DGet H a vx o ∧ o.isSome = (valD kvs k).isSome := by
  obtain ⟨n, p, ws, rfl, _, _, rfl, h3, h4⟩ := ry.dic rl e1
  obtain ⟨b, rfl, hb⟩ := rx.key e2
  refine ⟨p, _, rfl, DGet.t (k := k) h3 hb, ?_⟩
  rcases val_pair h4 k with ⟨z1, z2⟩ | ⟨d', v, z1, z2, z3⟩
  · rw [z1, z2]; rfl
  · rw [z1, z2]; rfl
theorem od_inA (hu : X.A.units + 65 < cLine) : OpD X W (compareOp .In) (gInA false) := by
  obtain ⟨r, hr, h0⟩ := od_inT (X := X) (W := W) hu
  refine ⟨_, OpR.or hr (op_inDc (by omega)), fun κ x y vx vy m S H σ Q rl rx ry h => ?_⟩
  unfold gInA at h
  split at h
  · rename_i kvs e1
    split at h
    · rename_i k e2
      obtain ⟨a, o, rfl, g, e3⟩ := get_dic rl rx ry e1 e2
      refine .inr ⟨a, o, rfl, g, ?_⟩
      rw [e3]
      exact h.ok' .refl rl (by rw [Bool.false_xor]; exact RD.bl_)
    · exact h.elim
  · exact .inl (h0 κ x y vx vy m S H σ Q rl rx ry h)
theorem od_notinA (hu : X.A.units + 65 < cLine) : OpD X W (compareOp .NotIn) (gInA true) := by
  obtain ⟨r, hr, h0⟩ := od_notinT (X := X) (W := W) hu
  refine ⟨_, OpR.or hr (op_notInDc (by omega)), fun κ x y vx vy m S H σ Q rl rx ry h => ?_⟩
  unfold gInA at h
  split at h
  · rename_i kvs e1
    split at h
    · rename_i k e2
      obtain ⟨a, o, rfl, g, e3⟩ := get_dic rl rx ry e1 e2
      refine .inr ⟨a, o, rfl, g, ?_⟩
      rw [e3]
      exact h.ok' .refl rl (by rw [Bool.true_xor]; exact RD.bl_)
    · exact h.elim
  · exact .inl (h0 κ x y vx vy m S H σ Q rl rx ry h)
/-- d[k] = v: what is stored comes to rest -/
def putD (o i v : D) (S : Sto) : Option Sto := match o with
  | .ob n => (match restD v S with
    | some (p, S1) => (match S1[n]?, keyD i with
      | some (.dic kvs), some k => if kvs.length < sizeLine then some (S1.set n (.dic (setD kvs k (.p p)))) else none
      | _, _ => none)
    | none => none)
  | _ => none
def nxO (ρ : Env) (o : Option Sto) : Out := match o with
  | some S => .nx ρ S
  | none => .st
def sDPt (fo fi fv : ED) : SD := fun ρ S => liftS ρ (fv ρ S) fun v S1 => liftS ρ (fo ρ S1) fun o S2 => liftS ρ (fi ρ S2) fun i S3 => nxO ρ (putD o i v S3)
theorem ds_dput {o i value : Expr} {pos pos' : Pos} {fo fi fv : ED} (hu : X.A.units + 65 < cLine) (ho : DE X W o fo) (hi : DE X W i fi) (hv : DE X W value fv) (hs : swapsWith value (some (.Subscript o i pos')) pos.line X.env = pure false := by rfl) :
    DS X W (.Assign [.Subscript o i pos'] value pos) (sDPt fo fi fv) := by
  obtain ⟨t1, p1, i1⟩ := ho
  obtain ⟨t2, p2, i2⟩ := hi
  obtain ⟨t3, p3, i3⟩ := hv
  refine ⟨_, ps_dput (by omega) p1 p2 p3 hs, fun κ ρ S σ H m Dn rl re h => ?_⟩
  refine i3.seqS rl re h fun v S1 vv H1 m1 x1 rl1 re1 r1 h1 => ?_
  refine i1.seqS rl1 re1 h1 fun o' S2 vo H2 m2 x2 rl2 re2 r2 h2 => ?_
  refine i2.seqS rl2 re2 h2 fun i' S3 vi H3 m3 x3 rl3 re3 r3 h3 => ?_
  have q1 := (r1.nx x2).nx x3
  have q2 := r2.nx x3
  unfold putD at h3
  split at h3
  · rename_i n
    split at h3
    · rename_i p S4 e4
      obtain ⟨rl4, x4, r4⟩ := q1.restD rl3 e4
      have q2' := q2.nx x4
      have q3' := r3.nx x4
      split at h3
      · rename_i kvs k e5 e6
        split at h3
        · rename_i hl
          obtain ⟨n', a, ws, en, em, es, rfl, h5, h6⟩ := q2'.dic rl4 (show dicO S4 (.ob n) = some kvs by simp only [dicO, e5])
          cases en
          obtain ⟨b, rfl, hb⟩ := q3'.key e6
          have q := set_pair h6 k r4
          refine ⟨a, _, rfl, DPut.t (k := k) h5 hb (by rw [← pairLen h6]; exact hl), ?_⟩
          exact h3 σ _ m3 (x4.trans (Nx.put rl4 em es rfl)) (rl4.putT em es q) (RE.nx (Nx.put rl4 em es rfl) (re3.nx x4))
        · exact h3.elim
      · exact h3.elim
    · exact h3.elim
  · exact h3.elim
/-! ### a < b of data -/
def rLtD (K : PySem.W.Frag) : R2 := fun v w H Q => ∃ d e, Dp K H v d ∧ Dp K H w e ∧ PySem.W.alike d e = true ∧ d ≠ .none ∧ d.depth ≤ 64 ∧ Q (.bl (PySem.W.dataLt d e)) H
theorem op_ltD (room : X.A.units + 65 < cLine) : OpR X (compareOp .Lt) (rLtD X.K) := by
  intro pins s σ H v w pv pw Q I rv rw' ⟨d, e, dv, de, ha, hn, hd, q⟩
  obtain ⟨as, r1⟩ := Dp.reads I d v pv dv rv
  obtain ⟨bs, r2⟩ := Dp.reads I e w pw de rw'
  have k := PySem.W.rcLt_alike d e X.A s pv pw as bs r1 r2 ha hn (by omega)
  exact k _ _ _ _ ⟨.bl _, H, I, rfl, q⟩
end
end DL
namespace DL
open PySem PySem.Spec PyProof.Rows L2
section
variable {X : Cx} {W : WX}
def gLtA : D → D → Sto → Rs D := fun x y S => match x, y with
  | .p (.tuple a), .p (.tuple b) => if PySem.W.alike (.tuple a) (.tuple b) = true ∧ (PyData.tuple a).depth ≤ 64 then .ok (.bl (PySem.W.dataLt (.tuple a) (.tuple b))) S else .st
  | x, y => gLt x y S
theorem od_ltA (hu : X.A.units + 65 < cLine) : OpD X W (compareOp .Lt) gLtA := by
  obtain ⟨r, hr, h0⟩ := od_lt (X := X) (W := W)
  refine ⟨_, OpR.or hr (op_ltD hu), fun κ x y vx vy m S H σ Q rl rx ry h => ?_⟩
  unfold gLtA at h
  split at h
  · split at h
    · rename_i hs
      exact .inr ⟨_, _, RP.dp _ _ rx, RP.dp _ _ ry, hs.1, (fun z => by cases z), hs.2, h.ok' .refl rl RD.bl_⟩
    · exact h.elim
  · exact .inl (h0 κ x y vx vy m S H σ Q rl rx ry h)
theorem gInA_of {neg : Bool} {x y : D} {S : Sto} (h : dicO S y = none) : gInA neg x y S = gInT neg x y S := by
  unfold gInA
  rw [h]
theorem dicO_p {d : PyData} {S : Sto} : dicO S (.p d) = none := rfl
end
end DL

/-! list comprehensions whose list will change -/
namespace DL
open PySem PySem.Spec PyProof.Rows L2
def okLO (r : Option (List PyData × Sto)) : Rs D := match r with
  | some (l, S) => .ok (.ob S.length) (S ++ [.lst (l.map .p)])
  | none => .st
noncomputable def eLcO (i : Env → Sto → Rs IDt) (g : GD) (c : BD) (f : ED) (vs : List Nat) : ED := fun ρ S => (i ρ S).bind fun d S1 => okLO (lcL g c f d.2 (wipeE ρ vs) d.1 [] S1)
section
variable {X : Cx} {W : WX} {m m1 m2 : List Addr} {S S1 S2 : Sto} {H H1 H2 : Hp} {κ : Addr → Prop} {L : Addr} {o : O}
theorem lv_shown {a : Addr} (hlen : m2.length = S2.length) (h : lv (KX X κ) (m2 ++ [L]) (S2 ++ [o]) a) : lv ⟨X.K, fun a => κ a ∨ a = L⟩ m2 S2 a := by
  rcases h with h | ⟨k, x, e1, e2, e3⟩
  · exact .inl (.inl h)
  · by_cases hk : k < m2.length
    · rw [List.getElem?_append_left hk] at e1
      rw [List.getElem?_append_left (by rw [← hlen]; exact hk)] at e2
      exact .inr ⟨k, x, e1, e2, e3⟩
    · rw [List.getElem?_append_right (Nat.le_of_not_lt hk)] at e1
      have : k - m2.length = 0 := by
        have := (List.getElem?_eq_some_iff.mp e1).1
        simp at this
        omega
      rw [this] at e1
      exact .inl (.inr (Option.some.inj e1).symm)
theorem RP.shown (hlen : m2.length = S2.length) {d : PyData} {v : V} (h : RP ⟨X.K, fun a => κ a ∨ a = L⟩ H2 (lv ⟨X.K, fun a => κ a ∨ a = L⟩ m2 S2) d v) : RP (KX X κ) H2 (lv (KX X κ) (m2 ++ [L]) (S2 ++ [o])) d v :=
  RP.kk (K := ⟨X.K, fun a => κ a ∨ a = L⟩) (K' := KX X κ) (L := lv (KX X κ) (m2 ++ [L]) (S2 ++ [o])) rfl _ _ (RP.mono (K := ⟨X.K, fun a => κ a ∨ a = L⟩) (fun _ _ q => q) (fun _ _ e nl => ⟨e, fun z => nl (lv_shown hlen z)⟩) d v h)
theorem RD.shown (hlen : m2.length = S2.length) {d : D} {v : V} (h : RD ⟨X.K, fun a => κ a ∨ a = L⟩ m2 S2 H2 d v) : RD (KX X κ) (m2 ++ [L]) (S2 ++ [o]) H2 d v := by
  cases d with
  | p d => exact RP.shown hlen h
  | ob n =>
    obtain ⟨a, e, rfl⟩ := h
    exact ⟨a, by rw [List.getElem?_append_left (List.getElem?_eq_some_iff.mp e).1]; exact e, rfl⟩
  | scr ns => exact h
  | xc a dd fs => exact h
theorem Rl.shown {acc : List PyData} {ws : List V} (r : Rl ⟨X.K, fun a => κ a ∨ a = L⟩ m2 S2 H2) (hn : ¬ κ L) (eL : H2 L = some (.lst ws)) (ra : RPs ⟨X.K, fun a => κ a ∨ a = L⟩ H2 (lv ⟨X.K, fun a => κ a ∨ a = L⟩ m2 S2) acc ws) :
    Rl (KX X κ) (m2 ++ [L]) (S2 ++ [.lst (acc.map .p)]) H2 := by
  have hl := r.len
  refine ⟨by simp [hl], ?_, fun a h => ⟨fun z => ?_, (r.hid a (.inl h)).2⟩, fun k b x ek ex => ?_⟩
  · rw [List.nodup_append]
    refine ⟨r.nd, by simp, fun x hx y hy => ?_⟩
    have : y = L := by simpa using hy
    subst this
    rintro rfl
    exact (r.hid x (.inr rfl)).1 hx
  · rcases List.mem_append.mp z with z | z
    · exact (r.hid a (.inl h)).1 z
    · have : a = L := by simpa using z
      exact hn (this ▸ h)
  · by_cases hk : k < m2.length
    · rw [List.getElem?_append_left hk] at ek
      rw [List.getElem?_append_left (by rw [← hl]; exact hk)] at ex
      have q := r.obj k b x ek ex
      cases x with
      | lst l => obtain ⟨vs, e, q⟩ := q; exact ⟨vs, e, pairMono (fun _ _ => RD.shown hl) q⟩
      | fz l => obtain ⟨vs, e, q⟩ := q; exact ⟨vs, e, RPs_iff.mpr (pairMono (fun _ _ => RP.shown hl) (RPs_iff.mp q))⟩
      | dic l => obtain ⟨vs, e, q⟩ := q; exact ⟨vs, e, pairMono (fun _ _ q => ⟨q.1, RD.shown hl q.2⟩) q⟩
    · rw [List.getElem?_append_right (Nat.le_of_not_lt hk)] at ek
      have h0 : k - m2.length = 0 := by
        have := (List.getElem?_eq_some_iff.mp ek).1
        simp at this
        omega
      rw [h0] at ek
      have eb : b = L := (Option.some.inj ek).symm
      subst eb
      rw [List.getElem?_append_right (by rw [← hl]; omega), ← hl, h0] at ex
      have : x = .lst (acc.map .p) := (Option.some.inj ex).symm
      subst this
      exact ⟨ws, eL, RDs_p.mpr (RPs_iff.mpr (pairMono (fun _ _ => RP.shown hl) (RPs_iff.mp ra)))⟩
theorem Nx.shown (x : Nx (KX X κ) m1 S1 H1 m2 S2 H2) (hL : H1 L = none) (hlen : m2.length = S2.length) : Nx (KX X κ) m1 S1 H1 (m2 ++ [L]) (S2 ++ [o]) H2 := by
  refine ⟨x.tup, fun a vs h n => ?_, ?_, x.frz, x.xd, x.hid⟩
  · obtain ⟨e, nl⟩ := x.lst a vs h n
    refine ⟨e, fun z => ?_⟩
    rcases lv_shown (κ := κ) (X := X) hlen z with q | q
    · rcases q with q | q
      · exact nl (.inl q)
      · rw [q, hL] at h; cases h
    · exact nl (.inr q)
  · obtain ⟨t, rfl⟩ := x.ext
    exact ⟨t ++ [L], by simp⟩
theorem imp_lcO {wi : TI} {fi : Env → Sto → Rs IDt} {g : GD} {c : BD} {f : ED} {vs : List Nat} (ii : Imp X W (fun K m S H (d : IDt) (J : It) => ItOk K m S H J d.1 d.2) wi fi) :
    Imp X W RD (tLc wi (canG X vs g) (can X (fun _ _ _ _ => False) RB c) (can X (fun _ _ _ _ => False) RD f) vs) (eLcO fi g c f vs) := by
  intro κ ρ S σ H m Q rl re h
  refine ii.seq rl re h fun d S1 J H1 m1 x1 rl1 re1 iok h1 => ?_
  obtain ⟨ds, chk⟩ := d
  have iok : ItOk (KX X κ) m1 S1 H1 J ds chk := iok
  intro L hL
  have hnk : ¬ κ L := fun z => by
    obtain ⟨u, e, _⟩ := (rl1.hid L z).2
    rw [hL] at e; cases e
  let κ' : Addr → Prop := fun a => κ a ∨ a = L
  have hsub : ∀ a, κ' a → κ a ∨ H1 a = none := fun a z => z.elim .inl fun z => .inr (by rw [z]; exact hL)
  have hL' : κ' L := .inr rfl
  -- the state between two turns
  let St' : Nat → Hp → Prop := fun i H2 => ∃ S2 m2 acc ws, Nx (KX X κ) m1 S1 H1 m2 S2 H2 ∧ Rl (KX X κ') m2 S2 H2 ∧ chk S2 ∧ H2 L = some (.lst ws) ∧ RPs (KX X κ') H2 (lv (KX X κ') m2 S2) acc ws ∧
    Post X κ W m1 S1 H1 σ (RD (KX X κ)) (okLO (lcL g c f chk (wipeE ρ vs) (ds.drop i) acc S2)) Q
  refine ⟨fun i n H2 => n = ds.length - i ∧ i ≤ ds.length ∧ St' i H2, ⟨ds.length, by simp, Nat.zero_le _, S1, m1, [], [], Nx.new rl1 hL, rl1.hide hL trivial, iok.here, upd_same, by rw [RPs], h1⟩, ?_⟩
  rintro i n H2 ⟨rfl, hi, S2, m2, acc, ws, x2, rl2, ck, eL, racc, h2⟩
  by_cases hlt : i < ds.length
  · have ed : ds.drop i = ds[i] :: ds.drop (i + 1) := List.drop_eq_getElem_cons hlt
    rw [ed] at h2
    obtain ⟨hgo, hy⟩ := iok.go κ' m2 S2 H2 i ds[i] hsub x2 rl2 ck (List.getElem?_eq_getElem hlt)
    refine .inr ⟨hgo, fun H' => i + 1 ≤ ds.length ∧ St' (i + 1) H', fun H' z => ⟨ds.length - (i + 1), by omega, rfl, z.1, z.2⟩, fun x H'' y => ?_⟩
    obtain ⟨x3, rl3, r3⟩ := hy x H'' y
    have re3 : RE (KX X κ') m2 S2 H'' (wipeE ρ vs) (L2.wipe σ vs) := (RE.nxh (K := KX X κ) x2 hsub (RE.wipe re1 vs)).nx x3
    unfold lcL at h2
    refine ⟨κ', ds[i], wipeE ρ vs, S2, m2, rl3, re3, r3, ?_⟩
    cases e1 : g ds[i] (wipeE ρ vs) S2 with
    | st => simp only [e1] at h2; exact h2.elim
    | ex _ _ => simp only [e1] at h2; exact h2.elim
    | ok ρ4 S4 =>
      simp only [e1] at h2
      intro σ4 H4 m4 x4 rl4 re4 wp
      refine ⟨wp.trans (wipe_wipe σ vs (fun _ z => z)), κ', ρ4, S4, m4, rl4, re4, ?_⟩
      cases e2 : c ρ4 S4 with
      | st => simp only [e2] at h2; exact h2.elim
      | ex _ _ => simp only [e2] at h2; exact h2.elim
      | ok b S5 =>
        intro b' H5 m5 x5 rl5 eb
        have eb : b = b' := eb
        subst eb
        have x25 := x3.trans (x4.trans x5)
        cases b with
        | true =>
          simp only [e2] at h2
          rw [if_pos rfl]
          refine ⟨κ', ρ4, S5, m5, rl5, re4.nx x5, ?_⟩
          cases e3 : f ρ4 S5 with
          | st => simp only [e3] at h2; exact h2.elim
          | ex _ _ => simp only [e3] at h2; exact h2.elim
          | ok y5 S6 =>
            simp only [e3] at h2
            intro v6 H6 m6 x6 rl6 r6
            cases e4 : restD y5 S6 with
            | none => simp only [e4] at h2; exact h2.elim
            | some pr =>
              obtain ⟨p, S7⟩ := pr
              simp only [e4] at h2
              by_cases hk : acc.length < sizeLine ∧ chk S7
              · rw [if_pos hk] at h2
                obtain ⟨rl7, x7, r7⟩ := r6.restD rl6 e4
                have x27 := x25.trans (x6.trans x7)
                have eL6 : H6 L = some (.lst ws) := (x27.hid L hL').trans eL
                have ra6 := racc.nx x27
                refine ⟨ws, eL6, by rw [← RPs_len ra6]; exact hk.1, hlt, S7, m6, acc ++ [p], ws ++ [v6], ?_, rl7.hidw hL' trivial, hk.2, upd_same, ?_, h2⟩
                · exact Nx.hidw (x2.hidden (h' := κ') x27 (fun a z => .inl z) hsub) hL ⟨_, eL6, trivial⟩ hnk
                · have hm := hid_upd_lst (o := .lst (ws ++ [v6])) rl7 hL'
                  have ht : ∀ a us, H6 a = some (.tup us) → (upd H6 L (.lst (ws ++ [v6]))) a = some (.tup us) := fun a us h => sqT_upd h (.inr ⟨_, eL6, trivial⟩)
                  exact RPs.mono (K := KX X κ') ht hm _ _ (RPs_app ra6 (RPs_iff.mpr (.cons r7 .nil)))
              · rw [if_neg hk] at h2; exact h2.elim
        | false =>
          simp only [e2] at h2
          rw [if_neg Bool.false_ne_true]
          by_cases hk : chk S5
          · rw [if_pos hk] at h2
            refine ⟨hlt, S5, m5, acc, ws, x2.hidden (h' := κ') x25 (fun a z => .inl z) hsub, rl5, hk, (x25.hid L hL').trans eL, racc.nx x25, h2⟩
          · rw [if_neg hk] at h2; exact h2.elim
  · have e0 : ds.drop i = [] := List.drop_eq_nil_of_le (Nat.le_of_not_lt hlt)
    rw [e0] at h2
    refine .inl ⟨iok.stop κ' m2 S2 H2 i hsub x2 rl2 ck (Nat.le_of_not_lt hlt), ?_⟩
    have hnm : L ∉ m2 := (rl2.hid L hL').1
    refine h2 (.ref L) H2 (m2 ++ [L]) (Nx.shown x2 hL rl2.len) (Rl.shown (κ := κ) rl2 hnk eL racc) ?_
    refine ⟨L, ?_, rfl⟩
    rw [← rl2.len, List.getElem?_append_right (Nat.le_refl _), Nat.sub_self]
    rfl
section
variable {elt tg iter : Expr} {ifs : List Expr} {scope : Scope} {own : List (Str × Nat)} {fi : Env → Sto → Rs IDt} {g : GD} {c : BD} {f : ED}
theorem de_lcO (hc : X.calm = true) (hN : X.N.Nodup) (hi : DI X W tg iter fi) (ok : BlkOk X.N X.env.scope scope own)
    (hg : ∀ (s : Shared) (H : Hp) (C : Addr) (cl : List (Str × Addr)) (fp : List Addr), DGw (X.blk s H scope (compEnvC scope cl C X.env) fp) tg (own.map fun x => x.2) g)
    (ht : ∀ (s : Shared) (H : Hp) (C : Addr) (cl : List (Str × Addr)) (fp : List Addr), DTs (X.blk s H scope (compEnvC scope cl C X.env) fp) (fun _ _ _ _ => False) ifs c)
    (he : ∀ (s : Shared) (H : Hp) (C : Addr) (cl : List (Str × Addr)) (fp : List Addr), DE (X.blk s H scope (compEnvC scope cl C X.env) fp) (fun _ _ _ _ => False) elt f)
    (hs : ∀ x, foldedSetIterable iter X.env x = pure x := by intro _; rfl) : DE X W (.ListComp elt [⟨tg, iter, ifs, 0⟩] scope pos) (eLcO fi g c f (own.map fun x => x.2)) := by
  obtain ⟨wi, pi, ii⟩ := hi
  exact ⟨_, @pe_lc X elt tg iter ifs scope own pos wi (canG X (List.map (fun (x : Str × Nat) => x.2) own) g) (can X (fun _ _ _ _ => False) RB c) (can X (fun _ _ _ _ => False) RD f) hc hN pi ok (fun s H C cl fp => (hg s H C cl fp).run) (fun s H C cl fp => (ht s H C cl fp).run) (fun s H C cl fp => (he s H C cl fp).can) hs, imp_lcO ii⟩
theorem ds_setLcO (i : Nat) {y : Str} {py spos : Pos} (hN : X.N.Nodup) (hi : DI X W tg iter fi) (ok : BlkOk X.N X.env.scope scope own)
    (hg : ∀ (s : Shared) (H : Hp) (C : Addr) (cl : List (Str × Addr)) (fp : List Addr), DGw (X.blk s H scope (compEnvC scope cl C X.env) fp) tg (own.map fun x => x.2) g)
    (ht : ∀ (s : Shared) (H : Hp) (C : Addr) (cl : List (Str × Addr)) (fp : List Addr), DTs (X.blk s H scope (compEnvC scope cl C X.env) fp) (fun _ _ _ _ => False) ifs c)
    (he : ∀ (s : Shared) (H : Hp) (C : Addr) (cl : List (Str × Addr)) (fp : List Addr), DE (X.blk s H scope (compEnvC scope cl C X.env) fp) (fun _ _ _ _ => False) elt f)
    (hc : X.calm = true := by rfl) (hy : X.N[i]? = some y := by rfl) (hyl : X.env.scope.names.lookup y = some .local := by rfl) (hsw : swapsWith (.ListComp elt [⟨tg, iter, ifs, 0⟩] scope pos) (some (.Name y py)) spos.line X.env = pure true := by exact sw_true rfl rfl rfl (by decide +kernel))
    (hs : ∀ x, foldedSetIterable iter X.env x = pure x := by intro _; rfl) : DS X W (.Assign [.Name y py] (.ListComp elt [⟨tg, iter, ifs, 0⟩] scope pos) spos) (sSet i (eLcO fi g c f (own.map fun x => x.2))) := by
  obtain ⟨wi, pi, ii⟩ := hi
  refine ⟨_, @ps_setLc X i y py elt tg iter ifs scope own pos spos wi (canG X (List.map (fun (x : Str × Nat) => x.2) own) g) (can X (fun _ _ _ _ => False) RB c) (can X (fun _ _ _ _ => False) RD f) hc hN hy hyl hsw pi ok (fun s H C cl fp => (hg s H C cl fp).run) (fun s H C cl fp => (ht s H C cl fp).run) (fun s H C cl fp => (he s H C cl fp).can) hs, fun κ ρ S σ H m Dn rl re h => ?_⟩
  refine (imp_lcO ii).seqS rl re h fun d S1 v H1 m1 x1 rl1 re1 r1 h1 => ?_
  exact h1 _ H1 m1 .refl rl1 (pairSet re1 fun d' e => ⟨v, rfl, by cases e; exact r1⟩)
end
end
end DL

/-! list comprehensions with two fors, the inner one over data at rest -/
namespace DL
open PySem PySem.Spec PyProof.Rows L2
def Fz (d : PyData) (l : List PyData) : Prop := d = .list l ∨ d = .tuple l
/-- what a walk over data at rest does -/
def FzAt (d : PyData) (H : Hp) (q : Addr) (us : List V) : Prop := match d with
  | .list _ => H q = some (.lst us)
  | _ => H q = some (.tup us)
def RIf : Kh → List Addr → Sto → Hp → PyData × List PyData → It → Prop := fun K m S H d J => Fz d.1 d.2 ∧ ∃ q, RP K H (lv K m S) d.1 (.ref q) ∧
  ∀ (H' : Hp) (us : List V), FzAt d.1 H' q us → ∀ i, (∀ y, us[i]? = some y → J.go i H' ∧ ∀ x H'', J.yld i H' x H'' → H'' = H' ∧ x = y) ∧ (us.length ≤ i → J.stop i H')
structure DIf (X : Cx) (W : WX) (tg iter : Expr) (f : Env → Sto → Rs (PyData × List PyData)) : Prop where
  ex : ∃ wi : TI, PI X tg iter wi ∧ Imp X W RIf wi f
def iFzL (f : ED) : Env → Sto → Rs (PyData × List PyData) := fun ρ S => (f ρ S).bind fun d S1 => match d with
  | .p (.list l) => .ok (.list l, l) S1
  | _ => .st
def iFzT (f : ED) : Env → Sto → Rs (PyData × List PyData) := fun ρ S => (f ρ S).bind fun d S1 => match d with
  | .p (.tuple l) => .ok (.tuple l, l) S1
  | _ => .st
open Classical in
noncomputable def lc2L (g : GD) (c : BD) (i1 : Env → Sto → Rs (PyData × List PyData)) (inner : Env → List D → List PyData → Sto → Option (List PyData × Sto)) (chk : Sto → Prop) (vs1 : List Nat) (ρ : Env) : List D → List PyData → Sto → Option (List PyData × Sto)
  | [], acc, S => some (acc, S)
  | d :: ds, acc, S => match g d ρ S with
    | .ok ρ1 S1 => (match c ρ1 S1 with
      | .ok true S2 => (match i1 ρ1 S2 with
        | .ok l S3 => (match inner (wipeE ρ1 vs1) (l.2.map .p) acc S3 with
          | some (acc', S4) => if chk S4 then lc2L g c i1 inner chk vs1 ρ ds acc' S4 else none
          | none => none)
        | _ => none)
      | .ok false S2 => if chk S2 then lc2L g c i1 inner chk vs1 ρ ds acc S2 else none
      | _ => none)
    | _ => none
noncomputable def eLc2 (i : Env → Sto → Rs IDt) (g : GD) (c : BD) (i1 : Env → Sto → Rs (PyData × List PyData)) (g1 : GD) (c1 : BD) (f : ED) (vs vs1 : List Nat) : ED := fun ρ S => (i ρ S).bind fun d S1 =>
  okL (lc2L g c i1 (lcL g1 c1 f (fun _ => True)) d.2 vs1 (wipeE ρ vs) d.1 [] S1)
section
variable {X : Cx} {W : WX} {m m1 m2 : List Addr} {S S1 S2 : Sto} {H H1 H2 : Hp} {κ : Addr → Prop} {L : Addr} {o : HO}
theorem DIf.can {tg iter : Expr} {f : Env → Sto → Rs (PyData × List PyData)} (h : DIf X W tg iter f) : PI X tg iter (can X W RIf f) := by
  obtain ⟨t, p, i⟩ := h
  exact ⟨fun pins s σ H Q I ⟨κ, ρ, S, m, rl, re, h⟩ => p.run pins s σ H Q I (i κ ρ S σ H m Q rl re h)⟩
theorem dif_lst {tg e : Expr} {fe : ED} (he : DE X W e fe) : DIf X W tg e (iFzL fe) := by
  obtain ⟨t, p, i⟩ := he
  refine ⟨_, pi_list p, fun κ ρ S σ H m Q rl re h => ?_⟩
  refine i.seq rl re h fun d S1 v H1 m1 x1 rl1 re1 r1 h1 => ?_
  split at h1
  · rename_i l
    have r2 : RP (KX X κ) H1 (lv (KX X κ) m1 S1) (.list l) v := r1
    rw [RP] at r2
    obtain ⟨q, us, rfl, q1, q2, q3⟩ := r2
    refine ⟨q, rfl, ⟨us, .of q1⟩, h1.ok' .refl rl1 ⟨.inl rfl, q, r1, fun H' us' hs i => ⟨fun y ey => ?_, fun hi => ?_⟩⟩⟩
    · have sq : SqL X.K H' q us' := .of hs
      refine ⟨⟨us', y, sq, ey⟩, fun z H'' hy => ?_⟩
      obtain ⟨e, hy⟩ := hy
      have := hy us' sq
      rw [ey] at this
      exact ⟨e, (Option.some.inj this).symm⟩
    · have sq : SqL X.K H' q us' := .of hs
      exact ⟨us', sq, hi⟩
  · exact h1.elim
theorem dif_tup {tg e : Expr} {fe : ED} (he : DE X W e fe) : DIf X W tg e (iFzT fe) := by
  obtain ⟨t, p, i⟩ := he
  refine ⟨_, pi_tup p, fun κ ρ S σ H m Q rl re h => ?_⟩
  refine i.seq rl re h fun d S1 v H1 m1 x1 rl1 re1 r1 h1 => ?_
  split at h1
  · rename_i l
    have r2 : RP (KX X κ) H1 (lv (KX X κ) m1 S1) (.tuple l) v := r1
    rw [RP] at r2
    obtain ⟨q, us, rfl, q1, q2⟩ := r2
    refine ⟨q, rfl, ⟨us, .of q1⟩, h1.ok' .refl rl1 ⟨.inr rfl, q, r1, fun H' us' hs i => ⟨fun y ey => ?_, fun hi => ?_⟩⟩⟩
    · have sq : SqT X.K H' q us' := .of hs
      refine ⟨⟨us', y, sq, ey⟩, fun z H'' hy => ?_⟩
      obtain ⟨e, hy⟩ := hy
      have := hy us' sq
      rw [ey] at this
      exact ⟨e, (Option.some.inj this).symm⟩
    · have sq : SqT X.K H' q us' := .of hs
      exact ⟨us', sq, hi⟩
  · exact h1.elim
theorem FzAt.of {K : Kh} {d : PyData} {l : List PyData} {q : Addr} {P : Addr → Prop} (f : Fz d l) (h : RP K H P d (.ref q)) : ∃ us, FzAt d H q us ∧ RPs K H P l us := by
  rcases f with rfl | rfl
  · rw [RP] at h
    obtain ⟨a, us, e, q1, _, q3⟩ := h
    cases e
    exact ⟨us, q1, q3⟩
  · rw [RP] at h
    obtain ⟨a, us, e, q1, q3⟩ := h
    cases e
    exact ⟨us, q1, q3⟩
theorem RD.hidw {ws : List V} (rl : Rl (KX X κ) m S H) (hL : κ L) (eL : H L = some (.lst ws)) {d : D} {v : V} (h : RD (KX X κ) m S H d v) : RD (KX X κ) m S (upd H L o) d v := by
  have ht : ∀ a us, H a = some (.tup us) → (upd H L o) a = some (.tup us) := fun a us h => sqT_upd h (.inr ⟨_, eL, trivial⟩)
  cases d with
  | p d => exact RP.mono (K := KX X κ) ht (hid_upd_lst rl hL) d v h
  | ob n => exact h
  | scr ns =>
    obtain ⟨a, e, h⟩ := h
    refine ⟨a, e, h.imp (fun ⟨o', e'⟩ => ⟨o', ?_⟩) id⟩
    rw [upd_ne (fun z => by rw [z, eL] at e'; cases e')]
    exact e'
  | xc a dd fs =>
    refine ⟨h.1, fun d e => ?_⟩
    have e' := h.2 d e
    rw [upd_ne (fun z => by rw [z, eL] at e'; cases e')]
    exact e'
theorem RE.hidw {ws : List V} (rl : Rl (KX X κ) m S H) (hL : κ L) (eL : H L = some (.lst ws)) {ρ : Env} {σ : St} (h : RE (KX X κ) m S H ρ σ) : RE (KX X κ) m S (upd H L o) ρ σ :=
  pairMono (fun _ _ h d e => let ⟨v, e1, r⟩ := h d e; ⟨v, e1, RD.hidw rl hL eL r⟩) h
theorem imp_lc2 {wi : TI} {fi : Env → Sto → Rs IDt} {g g1 : GD} {c c1 : BD} {i1 : Env → Sto → Rs (PyData × List PyData)} {f : ED} {vs vs1 : List Nat} (ii : Imp X W (fun K m S H (d : IDt) (J : It) => ItOk K m S H J d.1 d.2) wi fi) :
    Imp X W RD (tLc2 wi (canG X vs g) (can X (fun _ _ _ _ => False) RB c) (can X (fun _ _ _ _ => False) RIf i1) (canG X vs1 g1) (can X (fun _ _ _ _ => False) RB c1) (can X (fun _ _ _ _ => False) RD f) vs vs1) (eLc2 fi g c i1 g1 c1 f vs vs1) := by
  classical
  intro κ ρ S σ H m Q rl re h
  refine ii.seq rl re h fun d S1 J H1 m1 x1 rl1 re1 iok h1 => ?_
  obtain ⟨ds, chk⟩ := d
  have iok : ItOk (KX X κ) m1 S1 H1 J ds chk := iok
  intro L hL
  have hnk : ¬ κ L := fun z => by
    obtain ⟨u, e, _⟩ := (rl1.hid L z).2
    rw [hL] at e; cases e
  let κ' : Addr → Prop := fun a => κ a ∨ a = L
  have hsub : ∀ a, κ' a → κ a ∨ H1 a = none := fun a z => z.elim .inl fun z => .inr (by rw [z]; exact hL)
  have hL' : κ' L := .inr rfl
  let inn := lcL g1 c1 f (fun _ => True)
  let outer := fun (es : List D) acc S2 => lc2L g c i1 inn chk vs1 (wipeE ρ vs) es acc S2
  -- what both loops know between two turns
  let Kn : Sto → List Addr → List PyData → Hp → Prop := fun S2 m2 acc H2 => ∃ ws, Nx (KX X κ) m1 S1 H1 m2 S2 H2 ∧ Rl (KX X κ') m2 S2 H2 ∧ H2 L = some (.lst ws) ∧ RPs (KX X κ') H2 (lv (KX X κ') m2 S2) acc ws
  let St' : Nat → Hp → Prop := fun i H2 => ∃ S2 m2 acc, Kn S2 m2 acc H2 ∧ chk S2 ∧ Post X κ W m1 S1 H1 σ (RD (KX X κ)) (okL (outer (ds.drop i) acc S2)) Q
  refine ⟨fun i n H2 => n = ds.length - i ∧ i ≤ ds.length ∧ St' i H2, ⟨ds.length, by simp, Nat.zero_le _, S1, m1, [], ⟨[], Nx.new rl1 hL, rl1.hide hL trivial, upd_same, by rw [RPs]⟩, iok.here, ?_⟩, ?_⟩
  · exact h1
  rintro i n H2 ⟨rfl, hi, S2, m2, acc, ⟨ws, x2, rl2, eL, racc⟩, ck, h2⟩
  by_cases hlt : i < ds.length
  · have ed : ds.drop i = ds[i] :: ds.drop (i + 1) := List.drop_eq_getElem_cons hlt
    rw [ed] at h2
    obtain ⟨hgo, hy⟩ := iok.go κ' m2 S2 H2 i ds[i] hsub x2 rl2 ck (List.getElem?_eq_getElem hlt)
    refine .inr ⟨hgo, fun H' => i + 1 ≤ ds.length ∧ St' (i + 1) H', fun H' z => ⟨ds.length - (i + 1), by omega, rfl, z.1, z.2⟩, fun x H'' y => ?_⟩
    obtain ⟨x3, rl3, r3⟩ := hy x H'' y
    have re3 : RE (KX X κ') m2 S2 H'' (wipeE ρ vs) (L2.wipe σ vs) := (RE.nxh (K := KX X κ) x2 hsub (RE.wipe re1 vs)).nx x3
    simp only [outer] at h2
    unfold lc2L at h2
    refine ⟨κ', ds[i], wipeE ρ vs, S2, m2, rl3, re3, r3, ?_⟩
    cases e1 : g ds[i] (wipeE ρ vs) S2 with
    | st => simp only [e1] at h2; exact h2.elim
    | ex _ _ => simp only [e1] at h2; exact h2.elim
    | ok ρ4 S4 =>
      simp only [e1] at h2
      intro σ4 H4 m4 x4 rl4 re4 wp
      refine ⟨wp.trans (wipe_wipe σ vs (fun _ z => z)), κ', ρ4, S4, m4, rl4, re4, ?_⟩
      cases e2 : c ρ4 S4 with
      | st => simp only [e2] at h2; exact h2.elim
      | ex _ _ => simp only [e2] at h2; exact h2.elim
      | ok b S5 =>
        intro b' H5 m5 x5 rl5 eb
        have eb : b = b' := eb
        subst eb
        have x25 := x3.trans (x4.trans x5)
        have hp5 : H5 L = some (.lst ws) := (x25.hid L hL').trans eL
        have y5 : Nx (KX X κ) m1 S1 H1 m5 S5 H5 := x2.hidden (h' := κ') x25 (fun a z => .inl z) hsub
        cases b with
        | false =>
          simp only [e2] at h2
          rw [if_neg Bool.false_ne_true]
          by_cases hk : chk S5
          · rw [if_pos hk] at h2
            exact ⟨hlt, S5, m5, acc, ⟨ws, y5, rl5, hp5, racc.nx x25⟩, hk, h2⟩
          · rw [if_neg hk] at h2; exact h2.elim
        | true =>
          simp only [e2] at h2
          rw [if_pos rfl]
          have re5 := re4.nx x5
          refine ⟨κ', ρ4, S5, m5, rl5, re5, ?_⟩
          cases e3 : i1 ρ4 S5 with
          | st => simp only [e3] at h2; exact h2.elim
          | ex _ _ => simp only [e3] at h2; exact h2.elim
          | ok dl S6 =>
            obtain ⟨dd, l⟩ := dl
            simp only [e3] at h2
            intro J1 H6 m6 x6 rl6 hJ
            obtain ⟨hf, q, hq, hJ⟩ := hJ
            have hf : Fz dd l := hf
            have hq : RD (KX X κ') m6 S6 H6 (.p dd) (.ref q) := hq
            have x26 := x25.trans x6
            have y6 : Nx (KX X κ) m1 S1 H1 m6 S6 H6 := x2.hidden (h' := κ') x26 (fun a z => .inl z) hsub
            let In : Nat → Hp → Prop := fun j H7 => ∃ S7 m7 acc7, Kn S7 m7 acc7 H7 ∧ RE (KX X κ') m7 S7 H7 (wipeE ρ4 vs1) (L2.wipe σ4 vs1) ∧ RD (KX X κ') m7 S7 H7 (.p dd) (.ref q) ∧
              (match inn (wipeE ρ4 vs1) ((l.map D.p).drop j) acc7 S7 with
                | some (acc8, S8) => Post X κ W m1 S1 H1 σ (RD (KX X κ)) (okL (if chk S8 then outer (ds.drop (i + 1)) acc8 S8 else none)) Q
                | none => False)
            refine ⟨fun j k H7 => k = l.length - j ∧ j ≤ l.length ∧ In j H7, ⟨l.length, by simp, Nat.zero_le _, S6, m6, acc, ⟨ws, y6, rl6, (x26.hid L hL').trans eL, racc.nx x26⟩, RE.wipe (re5.nx x6) vs1, hq, ?_⟩, ?_⟩
            · show (match inn (wipeE ρ4 vs1) (l.map D.p) acc S6 with | some (acc8, S8) => _ | none => False)
              cases ei : inn (wipeE ρ4 vs1) (l.map D.p) acc S6 with
              | none => rw [ei] at h2; exact h2.elim
              | some pr => rw [ei] at h2; exact h2
            rintro j k H7 ⟨rfl, hj, S7, m7, acc7, ⟨ws7, x7, rl7, eL7, racc7⟩, re7, rq7, h7⟩
            obtain ⟨us, hus, rus⟩ := FzAt.of hf rq7
            have hlen : l.length = us.length := RPs_len rus
            obtain ⟨hgo1, hstop1⟩ := hJ H7 us hus j
            by_cases hjl : j < l.length
            · have hel : (l.map D.p).drop j = .p l[j] :: (l.map D.p).drop (j + 1) := by
                rw [List.drop_eq_getElem_cons (by simpa using hjl)]; simp
              rw [hel] at h7
              have hjl' : j < us.length := hlen ▸ hjl
              obtain ⟨go1, yl1⟩ := hgo1 us[j] (List.getElem?_eq_getElem hjl')
              refine .inr ⟨go1, fun H' => j + 1 ≤ l.length ∧ In (j + 1) H', fun H' z => ⟨l.length - (j + 1), by omega, rfl, z.1, z.2⟩, fun x1 H' yy => ?_⟩
              obtain ⟨e, ex⟩ := yl1 x1 H' yy
              subst e
              subst ex
              have rj : RD (KX X κ') m7 S7 H' (.p l[j]) us[j] := by
                obtain ⟨y, ey, ry⟩ := pairGet (RPs_iff.mp rus) (List.getElem?_eq_getElem hjl)
                rw [List.getElem?_eq_getElem hjl'] at ey
                cases ey
                exact ry
              simp only [inn] at h7
              unfold lcL at h7
              refine ⟨κ', .p l[j], wipeE ρ4 vs1, S7, m7, rl7, re7, rj, ?_⟩
              cases f1 : g1 (.p l[j]) (wipeE ρ4 vs1) S7 with
              | st => simp only [f1] at h7 <;> exact h7.elim
              | ex _ _ => simp only [f1] at h7 <;> exact h7.elim
              | ok ρ8 S8 =>
                simp only [f1] at h7
                intro σ8 H8 m8 x8 rl8 re8 wp8
                refine ⟨wp8.trans (wipe_wipe σ4 vs1 (fun _ z => z)), κ', ρ8, S8, m8, rl8, re8, ?_⟩
                cases f2 : c1 ρ8 S8 with
                | st => simp only [f2] at h7 <;> exact h7.elim
                | ex _ _ => simp only [f2] at h7 <;> exact h7.elim
                | ok b9 S9 =>
                  intro b9' H9 m9 x9 rl9 eb9
                  have eb9 : b9 = b9' := eb9
                  subst eb9
                  have x79 := x8.trans x9
                  have y9 : Nx (KX X κ) m1 S1 H1 m9 S9 H9 := x7.hidden (h' := κ') x79 (fun a z => .inl z) hsub
                  have eL9 : H9 L = some (.lst ws7) := (x79.hid L hL').trans eL7
                  cases b9 with
                  | false =>
                    simp only [f2] at h7
                    rw [if_neg Bool.false_ne_true]
                    simp only [if_true] at h7
                    exact ⟨hjl, S9, m9, acc7, ⟨ws7, y9, rl9, eL9, racc7.nx x79⟩, re7.nx x79, rq7.nx x79, h7⟩
                  | true =>
                    simp only [f2] at h7
                    rw [if_pos rfl]
                    refine ⟨κ', ρ8, S9, m9, rl9, re8.nx x9, ?_⟩
                    cases f3 : f ρ8 S9 with
                    | st => simp only [f3] at h7 <;> exact h7.elim
                    | ex _ _ => simp only [f3] at h7 <;> exact h7.elim
                    | ok y5 Sa =>
                      simp only [f3] at h7
                      intro va Ha ma xa rla ra
                      cases f4 : restD y5 Sa with
                      | none => simp only [f4] at h7 <;> exact h7.elim
                      | some pr =>
                        obtain ⟨p, Sb⟩ := pr
                        simp only [f4, and_true] at h7
                        by_cases hk : acc7.length < sizeLine
                        · rw [if_pos hk] at h7
                          obtain ⟨rlb, xb, rb⟩ := ra.restD rla f4
                          have x7b := x79.trans (xa.trans xb)
                          have eLa : Ha L = some (.lst ws7) := (x7b.hid L hL').trans eL7
                          have racb := racc7.nx x7b
                          refine ⟨ws7, eLa, by rw [← RPs_len racb]; exact hk, hjl, Sb, ma, acc7 ++ [p], ⟨ws7 ++ [va], ?_, rlb.hidw hL' trivial, upd_same, ?_⟩, RE.hidw rlb hL' eLa (re7.nx x7b), RD.hidw rlb hL' eLa (rq7.nx x7b), h7⟩
                          · exact Nx.hidw (x7.hidden (h' := κ') x7b (fun a z => .inl z) hsub) hL ⟨_, eLa, trivial⟩ hnk
                          · have hm := hid_upd_lst (o := .lst (ws7 ++ [va])) rlb hL'
                            have ht : ∀ a us, Ha a = some (.tup us) → (upd Ha L (.lst (ws7 ++ [va]))) a = some (.tup us) := fun a us h => sqT_upd h (.inr ⟨_, eLa, trivial⟩)
                            exact RPs.mono (K := KX X κ') ht hm _ _ (RPs_app racb (RPs_iff.mpr (.cons rb .nil)))
                        · rw [if_neg hk] at h7 <;> exact h7.elim
            · have e0 : (l.map D.p).drop j = [] := List.drop_eq_nil_of_le (by simp; omega)
              rw [e0] at h7
              refine .inl ⟨hstop1 (by omega), hlt, S7, m7, acc7, ⟨ws7, x7, rl7, eL7, racc7⟩, ?_⟩
              have h7 : Post X κ W m1 S1 H1 σ (RD (KX X κ)) (okL (if chk S7 then outer (ds.drop (i + 1)) acc7 S7 else none)) Q := h7
              by_cases hk : chk S7
              · rw [if_pos hk] at h7; exact ⟨hk, h7⟩
              · rw [if_neg hk] at h7 <;> exact h7.elim
  · have e0 : ds.drop i = [] := List.drop_eq_nil_of_le (Nat.le_of_not_lt hlt)
    rw [e0] at h2
    refine .inl ⟨iok.stop κ' m2 S2 H2 i hsub x2 rl2 ck (Nat.le_of_not_lt hlt), ?_⟩
    refine h2 (.ref L) H2 m2 x2 (Rl.unh (K := KX X κ') (h' := κ) (fun a z => .inl z) rl2) ?_
    show RP _ _ _ _ _
    rw [RP]
    refine ⟨L, ws, rfl, eL, ?_, ?_⟩
    · rintro (z | ⟨k, o, z1, z2, z3⟩)
      · exact hnk z
      · exact (rl2.hid L hL').1 (List.mem_of_getElem? z1)
    · have := RDs_p.mpr racc
      exact RDs_p.mp (pairMono (fun _ _ => RD.unh (K := KX X κ') (h' := κ) (fun a z => .inl z)) this)
section
variable {elt tg iter tg1 iter1 : Expr} {ifs ifs1 : List Expr} {scope : Scope} {own : List (Str × Nat)} {vs1 : List Nat} {fi : Env → Sto → Rs IDt} {g g1 : GD} {c c1 : BD} {i1 : Env → Sto → Rs (PyData × List PyData)} {f : ED} {pos : Pos}
theorem de_lc2 (hc : X.calm = true) (hN : X.N.Nodup) (hi : DI X W tg iter fi) (ok : BlkOk X.N X.env.scope scope own) (hv : ∀ i ∈ vs1, i ∈ own.map fun x => x.2)
    (hg : ∀ (s : Shared) (H : Hp) (C : Addr) (cl : List (Str × Addr)) (fp : List Addr), DGw (X.blk s H scope (compEnvC scope cl C X.env) fp) tg (own.map fun x => x.2) g)
    (ht : ∀ (s : Shared) (H : Hp) (C : Addr) (cl : List (Str × Addr)) (fp : List Addr), DTs (X.blk s H scope (compEnvC scope cl C X.env) fp) (fun _ _ _ _ => False) ifs c)
    (hi1 : ∀ (s : Shared) (H : Hp) (C : Addr) (cl : List (Str × Addr)) (fp : List Addr), DIf (X.blk s H scope (compEnvC scope cl C X.env) fp) (fun _ _ _ _ => False) tg1 iter1 i1)
    (hg1 : ∀ (s : Shared) (H : Hp) (C : Addr) (cl : List (Str × Addr)) (fp : List Addr), DGw (X.blk s H scope (compEnvC scope cl C X.env) fp) tg1 vs1 g1)
    (ht1 : ∀ (s : Shared) (H : Hp) (C : Addr) (cl : List (Str × Addr)) (fp : List Addr), DTs (X.blk s H scope (compEnvC scope cl C X.env) fp) (fun _ _ _ _ => False) ifs1 c1)
    (he : ∀ (s : Shared) (H : Hp) (C : Addr) (cl : List (Str × Addr)) (fp : List Addr), DE (X.blk s H scope (compEnvC scope cl C X.env) fp) (fun _ _ _ _ => False) elt f)
    (hs : ∀ x, foldedSetIterable iter X.env x = pure x := by intro _; rfl) (hs1 : ∀ env x, foldedSetIterable iter1 env x = pure x := by intro _ _; rfl) :
    DE X W (.ListComp elt [⟨tg, iter, ifs, 0⟩, ⟨tg1, iter1, ifs1, 0⟩] scope pos) (eLc2 fi g c i1 g1 c1 f (own.map fun x => x.2) vs1) := by
  obtain ⟨wi, pi, ii⟩ := hi
  exact ⟨_, @pe_lc2 X elt tg iter tg1 iter1 ifs ifs1 scope own vs1 pos wi (can X (fun _ _ _ _ => False) RIf i1) (canG X (List.map (fun (x : Str × Nat) => x.2) own) g) (canG X vs1 g1) (can X (fun _ _ _ _ => False) RB c) (can X (fun _ _ _ _ => False) RB c1) (can X (fun _ _ _ _ => False) RD f) hc hN pi ok hv
    (fun s H C cl fp => (hg s H C cl fp).run) (fun s H C cl fp => (ht s H C cl fp).run) (fun s H C cl fp => (hi1 s H C cl fp).can) (fun s H C cl fp => (hg1 s H C cl fp).run) (fun s H C cl fp => (ht1 s H C cl fp).run) (fun s H C cl fp => (he s H C cl fp).can) hs hs1, imp_lc2 ii⟩
end
end
end DL

/-! a set of numbers made by a comprehension, sorted at once -/
namespace DL
open PySem PySem.Spec PyProof.Rows L2 PpSet
abbrev noI : Int → Bool := fun _ => false
abbrev withI (T : Int → Bool) (k : Int) : Int → Bool := fun j => T j || decide (j = k)
abbrev numI (T : Int → Bool) (k : Int) (n : Nat) : Nat := if T k = true then n else n + 1
abbrev bareSet (w : World) : Obj := { cls := .type "set", dict := none, data := .set #[] 0 (.fresh 0 0 (!w.params.followText "set-order")) }
theorem bareSet_R {hp : Heap} (w : World) : SetR w (hp.push (bareSet w)) hp.objs.size noI 0 := by
  refine ⟨bareSet w, #[], 0, _, Heap.get?_push_size _ rfl, ⟨rfl, rfl, rfl⟩, rfl, ?_, ?_, ?_, ?_, rfl, rfl, .nil, ?_⟩
  · intro e he; cases he
  · exact .nil
  · intro k; constructor <;> intro z <;> cases z
  · decide
  · by_cases z : w.params.followText "set-order" = true
    · exact .inl z
    · refine .inr ?_
      show (!w.params.followText "set-order") = true
      rw [Bool.not_eq_true'] 
      exact Bool.eq_false_iff.mpr z
section
variable {X : Cx}
theorem addI_ok {pins : List (Addr × Obj)} {σ : L2.St} {H : Hp} {s : Shared} {E : Value → Shared → Prop} {D : Addr} {T : Int → Bool} {n : Nat} {k : Int} {tk : Tok} {Q : Value → Shared → Prop} (I : Inv X pins σ H s) (hD : H D = some (SetO X.w D T n)) (room : n + 1 < scanBound)
    (h : ∀ s2, Inv X pins σ (upd H D (SetO X.w D (withI T k) (numI T k n))) s2 → Q .none s2) : wpAny (model X.prog X.w) X.A (call (.builtin "set.add") [.ref D, .int k tk]) Q E s := by
  refine setR_add (setO_get I hD) room fun h2 same now => h _ ?_
  obtain ⟨o, _, _, _, ho, _⟩ := id now
  exact I.write (e := D) (t' := s.toks + 1) (by rw [hD]; trivial) (.inl rfl) (fun b u hb hu => (same.2 b hb).trans hu) ⟨o, ho⟩ (setO_new now)
def tSetI (w : World) (wi : TI) (g : TG) (tt : TT) (te : TE) (vs : List Nat) : TE := fun σ H Q => wi σ H fun J H1 => ∀ D, H1 D = none → ∃ Z : Nat → Nat → Hp → Prop,
  (∃ m, Z 0 m (upd H1 D (SetO w D noI 0))) ∧ ∀ i m H2, Z i m H2 → (J.stop i H2 ∧ Q (.ref D) H2) ∨
    (J.go i H2 ∧ ∃ Fw : Hp → Prop, (∀ H3, Fw H3 → ∃ m', m' < m ∧ Z (i + 1) m' H3) ∧
      ∀ x H3, J.yld i H2 x H3 → g x (wipe σ vs) H3 fun σ4 H4 => wipe σ4 vs = wipe σ vs ∧ tt σ4 H4 fun b H5 =>
        if b = true then te σ4 H5 fun y H6 => ∃ (k : Int) (T : Int → Bool) (n : Nat), y = .int k ∧ H6 D = some (SetO w D T n) ∧ n + 1 < scanBound ∧ Fw (upd H6 D (SetO w D (withI T k) (numI T k n)))
        else Fw H5)
abbrev blkS (X : Cx) (s : Shared) (H : Hp) (scope : Scope) (fp : List Addr) : Cx := X.blk s H scope (compEnvC scope (cellsFrom (s.heap.objs.size + 1) scope.names (cloFrom X.env.cells scope.names [])) s.heap.objs.size X.env) fp
theorem pe_setI {elt tg iter : Expr} {ifs : List Expr} {scope : Scope} {own : List (PySem.Str × Nat)} {pos : Pos} {wi : TI} {g : TG} {tt : TT} {te : TE} (hc : X.calm = true) (hN : X.N.Nodup) (hi : PI X tg iter wi) (ok : BlkOk X.N X.env.scope scope own)
    (hg : ∀ (s : Shared) (H : Hp) (C : Addr) (cl : List (PySem.Str × Addr)) (fp : List Addr), PG (X.blk s H scope (compEnvC scope cl C X.env) fp) tg g)
    (ht : ∀ (s : Shared) (H : Hp) (C : Addr) (cl : List (PySem.Str × Addr)) (fp : List Addr), PTs (X.blk s H scope (compEnvC scope cl C X.env) fp) ifs tt)
    (he : ∀ (s : Shared) (H : Hp) (C : Addr) (cl : List (PySem.Str × Addr)) (fp : List Addr), PE (X.blk s H scope (compEnvC scope cl C X.env) fp) elt te)
    (hs : ∀ x, foldedSetIterable iter X.env x = pure x := by intro _; rfl) :
    PE X (.SetComp elt [⟨tg, iter, ifs, 0⟩] scope pos) (tSetI X.w wi g tt te (own.map fun x => x.2)) := by
  refine ⟨fun pins s σ H Q I h => ?_⟩
  rw [eval_SetComp]
  have frees : ∀ y ∈ scope.names, y.2 = .free → ∃ c, X.env.cells.lookup y.1 = some c := by
    intro y hy e
    rcases ok.free y hy e with k | k
    · exact I.ok.has _ (.inl k)
    · exact I.ok.has _ (.inr k)
  have walk := hi.run pins s σ H _ I h
  refine wpAny_comprehension_free (use := none) rfl hs (closure_ok frees) ok.kind (fun y hy e => by rw [ok.uniq y hy, e]) (thn walk fun xv sa hx => thn hx fun itv sb hb => ?_)
  obtain ⟨it, fp, tn, J, Hb, e, Ib, T, stb, fb, q⟩ := hb
  subst e
  refine newSet_ok (newEnv_comp ?_)
  obtain ⟨D, eD⟩ : ∃ D, sb.heap.objs.size = D := ⟨_, rfl⟩
  have freeD : Hb D = none := Ib.hok.fresh (Nat.le_of_eq eD)
  obtain ⟨Z, ⟨m0, z0⟩, turn⟩ := q D freeD
  -- the state with the new set
  let sc : Shared := { sb with heap := sb.heap.push (bareSet X.w) }
  let Hc : Hp := upd Hb D (SetO X.w D noI 0)
  have hsc : sc.heap = sb.heap.push (bareSet X.w) := rfl
  have newD : SetR X.w (sb.heap.push (bareSet X.w)) D noI 0 := eD ▸ bareSet_R X.w
  have Ic : Inv X pins σ Hc sc := Ib.laid (t' := sb.toks) (fun b o e => Heap.get?_push_of_some _ e) (Nat.le_of_eq eD) (setO_new newD)
  have below : ∀ b ∈ fp, b < sb.heap.objs.size := by
    intro b hb
    obtain ⟨o, e, _⟩ := T.obj _ _ stb b hb
    exact Heap.lt_size e
  have fc : ∀ b ∈ fp, FpOk X pins Hc b ∧ b < sc.heap.objs.size := by
    intro b hb
    have lt := below b hb
    have ne : b ≠ D := fun z => by rw [z, ← eD] at lt; exact absurd lt (Nat.lt_irrefl _)
    exact ⟨⟨(upd_ne ne).trans (fb b hb).1, (fb b hb).2⟩, by rw [hsc, Heap.size_push]; exact Nat.lt_succ_of_lt lt⟩
  have stc : tn 0 sc.heap := T.keep _ _ _ stb fun b _ o e => Heap.get?_push_of_some _ e
  have Id := block_start Ic ok hN fc
  have kg := hg sc Hc sc.heap.objs.size (cellsFrom (sc.heap.objs.size + 1) scope.names (cloFrom X.env.cells scope.names [])) fp
  have kt := ht sc Hc sc.heap.objs.size (cellsFrom (sc.heap.objs.size + 1) scope.names (cloFrom X.env.cells scope.names [])) fp
  have ke := he sc Hc sc.heap.objs.size (cellsFrom (sc.heap.objs.size + 1) scope.names (cloFrom X.env.cells scope.names [])) fp
  have freeFp : ∀ b ∈ fp, Hc b = none := fun b hb => (fc b hb).1.1
  obtain ⟨ce, hce⟩ : ∃ ce, compEnvC scope (cellsFrom (sc.heap.objs.size + 1) scope.names (cloFrom X.env.cells scope.names [])) sc.heap.objs.size X.env = ce := ⟨_, rfl⟩
  obtain ⟨sd, hsd⟩ : ∃ sd : Shared, { sc with heap := pushCells (sc.heap.push { cls := .type "dict", data := .dict #[] }) scope.names } = sd := ⟨_, rfl⟩
  have lce : ce.locals = sc.heap.objs.size := by rw [← hce]; rfl
  have std : tn 0 sd.heap := T.keep _ _ _ stc fun b _ o e => by rw [← hsd]; exact pushCells_keeps _ _ _ _ (Heap.get?_push_of_some _ e)
  rw [hce] at kg kt ke Id
  rw [hsd] at Id
  show codeAny (model X.prog X.w) X.A (.compStart (.SetComp elt [⟨tg, iter, ifs, 0⟩] scope pos) 0 (.ref it) (.ref sb.heap.objs.size) (compEnvC scope (cellsFrom (sc.heap.objs.size + 1) scope.names (cloFrom X.env.cells scope.names [])) sc.heap.objs.size X.env)) (compPost (model X.prog X.w) X.A X.xe none (EP X pins σ Q) (.ref sb.heap.objs.size) sc.heap.objs.size) { sc with heap := pushCells (sc.heap.push { cls := .type "dict", data := .dict #[] }) scope.names }
  rw [hce, hsd, eD]
  let Xb : Cx := X.blk sc Hc scope ce fp
  let σw := wipe σ (own.map fun x => x.2)
  have still : ∀ {σ' : L2.St} {H' : Hp} {s' : Shared}, Inv Xb [] σ' H' s' → (∀ b ∈ fp, H' b = none) → ∀ b ∈ fp, FpOk Xb [] H' b := by
    intro σ' H' s' I' hn b hb
    exact ⟨hn b hb, (I'.ok.exf b hb).1, I'.ok.exfs b hb, .inl hb, fun x c e => (I'.ok.exf b hb).2 x c e, fun p hp => nomatch (show p ∈ ([] : List (Addr × Obj)) from hp)⟩
  let Keep : Nat → Shared → Prop := fun n t => ∃ i H', Inv Xb [] σw H' t ∧ tn i t.heap ∧ (∀ b ∈ fp, H' b = none) ∧ Z i n H'
  have loop : codeAny (model X.prog X.w) X.A (.compLoop (.SetComp elt [⟨tg, iter, ifs, 0⟩] scope pos) 0 (.ref it) (.ref D) ce) (compPost (model X.prog X.w) X.A X.xe none (EP X pins σ Q) (.ref D) sc.heap.objs.size) sd := by
    refine compLoopS_any Keep ?_ m0 ⟨0, Hc, Id, std, freeFp, z0⟩
    rintro n t ⟨i, Ht, It, stt, nt, zt⟩
    rcases turn i n Ht zt with ⟨stop, qd⟩ | ⟨go, Fw, hFw, step⟩
    · refine thnF (T.done Xb rfl rfl rfl hc i [] t _ Ht (fun _ _ => False) It (still It nt) stt stop) fun r u hr => ?_
      obtain ⟨rfl, Iu⟩ := hr
      have Iv : Inv X pins σ Ht u := Ic.call' (ch := fp) Iu.os Iu.base Iu.hok Iu.bare fun b hb => by
        obtain ⟨⟨_, f1, f2, f3, f4, f5⟩, _⟩ := fc b hb
        exact ⟨f3, f1, f4, f5⟩
      have nC : Ht ce.locals = none := Iu.free
      obtain ⟨mm, hns, _⟩ := Iu.loc
      have hns : u.heap.Ns ce.locals mm := hns
      rw [lce] at hns nC
      obtain ⟨f0, f1, f2, f3, f4, f5⟩ := Ic.fpOk (H' := Ht) (Nat.le_refl _) nC
      exact ⟨mm, hns, fun h2 sb2 => ⟨.ref D, Ht, Iv.turned (t' := u.toks) (fun b o hb e => (sb2.2 b hb).trans e) f0 f1 f3 f4 f5, rfl, qd⟩⟩
    · refine thnF (T.item Xb rfl rfl rfl hc i [] t _ Ht (fun _ _ => False) It (still It nt) stt go) fun r u hr => ?_
      obtain ⟨v, rfl, hv⟩ := hr
      refine thnF hv fun _ t1 hx => ?_
      obtain ⟨x, H1, I1, r1, y1, st1, n1⟩ := hx
      have I1' := I1.pinned (still I1 n1) (T.obj _ _ st1)
      refine thnF (kg.run _ t1 _ H1 x v _ I1' r1 (step x H1 y1)) fun _ t2 h2 => ?_
      obtain ⟨σ2, H2, I2, w2, q2⟩ := h2
      refine thnF (kt.run _ t2 σ2 H2 _ I2 q2) fun b t3 h3 => ?_
      obtain ⟨H3, I3, q3⟩ := h3
      -- how a turn ends
      have close : ∀ {t' : Shared} {H' : Hp}, Inv Xb ([] ++ pinsAt fp t1.heap) σ2 H' t' → Fw H' → ∃ m, m < n ∧ Keep m t' := by
        intro t' H' I' nx
        obtain ⟨m', lt, zz⟩ := hFw H' nx
        have held : ∀ b ∈ fp, ∀ o, t1.heap.get? b = some o → t'.heap.get? b = some o ∧ H' b = none := by
          intro b hb o e
          have z := I'.pin (b, o) (List.mem_append_right _ (List.mem_append_right _ (mem_pinsAt hb e)))
          exact ⟨z.1, z.2.1⟩
        have ll : σw.length = σ2.length := by
          show (wipe σ _).length = _
          rw [← w2, wipe_length]
        refine ⟨m', lt, i + 1, H', (I'.unpinned (pins := [])).weak ll fun j v e => ?_, T.keep _ _ _ st1 fun b hb o e => (held b hb o e).1, fun b hb => ?_, zz⟩
        · have e : (wipe σ (own.map fun x => x.2))[j]? = some (some v) := e
          rw [← w2] at e
          exact (wipe_some e).1
        · obtain ⟨o, e, _⟩ := T.obj _ _ st1 b hb
          exact (held b hb o e).2
      cases b with
      | false =>
        rw [if_neg Bool.false_ne_true] at q3 ⊢
        exact close I3 q3
      | true =>
        rw [if_pos rfl] at q3 ⊢
        refine thnF (ke.run _ t3 σ2 H3 _ I3 q3) fun z t4 h4 => ?_
        obtain ⟨yv, H4, I4, r4, k, S0, n0, rfl, hD4, room, nx⟩ := h4
        obtain ⟨tk, rfl⟩ := r4
        exact addI_ok (X := Xb) I4 hD4 room fun t5 I5 => close I5 nx
  exact codeAny_compStart_set loop (T.self X.A 0 _ _ _ std loop)
end
/-! ### the numbers in order -/
def insI (k : Int) : List Int → List Int
  | [] => [k]
  | x :: l => if k < x then k :: x :: l else x :: insI k l
def srtI : List Int → List Int
  | [] => []
  | k :: l => insI k (srtI l)
theorem mem_insI {k j : Int} : ∀ {l : List Int}, j ∈ insI k l ↔ j = k ∨ j ∈ l
  | [] => by simp [insI]
  | x :: l => by
    unfold insI
    split
    · simp
    · rw [List.mem_cons, mem_insI, List.mem_cons]
      exact ⟨fun z => by rcases z with z | z | z <;> simp [z], fun z => by rcases z with z | z | z <;> simp [z]⟩
theorem mem_srtI {j : Int} : ∀ {l : List Int}, j ∈ srtI l ↔ j ∈ l
  | [] => Iff.rfl
  | k :: l => by
    show j ∈ insI k (srtI l) ↔ _
    rw [mem_insI, mem_srtI, List.mem_cons]
theorem insI_sorted {k : Int} : ∀ {l : List Int}, l.Pairwise (· < ·) → k ∉ l → (insI k l).Pairwise (· < ·)
  | [], _, _ => by simp [insI]
  | x :: l, h, hk => by
    obtain ⟨h1, h2⟩ := List.pairwise_cons.mp h
    unfold insI
    split
    · rename_i lt
      refine List.pairwise_cons.mpr ⟨fun y hy => ?_, h⟩
      rcases List.mem_cons.mp hy with z | z
      · rw [z]; exact lt
      · exact Int.lt_trans lt (h1 y z)
    · rename_i ge
      refine List.pairwise_cons.mpr ⟨fun y hy => ?_, insI_sorted h2 fun z => hk (List.mem_cons_of_mem _ z)⟩
      rcases mem_insI.mp hy with z | z
      · rw [z]
        have : k ≠ x := fun e => hk (by rw [e]; exact List.mem_cons_self)
        omega
      · exact h1 y z
theorem srtI_sorted : ∀ {l : List Int}, l.Nodup → (srtI l).Pairwise (· < ·)
  | [], _ => .nil
  | k :: l, h => by
    obtain ⟨h1, h2⟩ := List.nodup_cons.mp h
    exact insI_sorted (srtI_sorted h2) fun z => h1 (mem_srtI.mp z)
theorem sorted_one : ∀ {l k : List Int}, l.Pairwise (· < ·) → k.Pairwise (· < ·) → (∀ j, j ∈ l ↔ j ∈ k) → l = k
  | [], [], _, _, _ => rfl
  | [], y :: k, _, _, h => absurd ((h y).mpr List.mem_cons_self) (by simp)
  | x :: l, [], _, _, h => absurd ((h x).mp List.mem_cons_self) (by simp)
  | x :: l, y :: k, hl, hk, h => by
    obtain ⟨a1, a2⟩ := List.pairwise_cons.mp hl
    obtain ⟨b1, b2⟩ := List.pairwise_cons.mp hk
    have e : x = y := by
      rcases List.mem_cons.mp ((h x).mp List.mem_cons_self) with z | z
      · exact z
      · rcases List.mem_cons.mp ((h y).mpr List.mem_cons_self) with z2 | z2
        · exact z2.symm
        · have := b1 x z
          have := a1 y z2
          omega
    subst e
    congr 1
    refine sorted_one a2 b2 fun j => ⟨fun z => ?_, fun z => ?_⟩
    · rcases List.mem_cons.mp ((h j).mp (List.mem_cons_of_mem _ z)) with e | e
      · have := a1 j z; omega
      · exact e
    · rcases List.mem_cons.mp ((h j).mpr (List.mem_cons_of_mem _ z)) with e | e
      · have := b1 j z; omega
      · exact e
def addS (acc : List Int) (k : Int) : List Int := if k ∈ acc then acc else acc ++ [k]
theorem addS_nodup {acc : List Int} {k : Int} (h : acc.Nodup) : (addS acc k).Nodup := by
  unfold addS
  split
  · exact h
  · rename_i n
    rw [List.nodup_append]
    exact ⟨h, by simp, fun a ha b hb e => n (by rw [← List.mem_singleton.mp hb, ← e]; exact ha)⟩
theorem mem_addS {acc : List Int} {k j : Int} : j ∈ addS acc k ↔ j ∈ acc ∨ j = k := by
  unfold addS
  split
  · rename_i h
    exact ⟨.inl, fun z => z.elim id fun e => by rw [e]; exact h⟩
  · simp
open Classical in
noncomputable def lcSI (g : GD) (c : BD) (f : ED) (chk : Sto → Prop) (ρ : Env) : List D → List Int → Sto → Option (List Int × Sto)
  | [], acc, S => some (acc, S)
  | d :: ds, acc, S => match g d ρ S with
    | .ok ρ1 S1 => (match c ρ1 S1 with
      | .ok true S2 => (match f ρ1 S2 with
        | .ok (.p (.int k)) S3 => if acc.length + 1 < 64 ∧ chk S3 then lcSI g c f chk ρ ds (addS acc k) S3 else none
        | _ => none)
      | .ok false S2 => if chk S2 then lcSI g c f chk ρ ds acc S2 else none
      | _ => none)
    | _ => none
def okSI (r : Option (List Int × Sto)) : Rs D := match r with
  | some (l, S) => .ok (.lst ((srtI l).map .int)) S
  | none => .st
noncomputable def eSrtI (i : Env → Sto → Rs IDt) (g : GD) (c : BD) (f : ED) (vs : List Nat) : ED := fun ρ S => (i ρ S).bind fun d S1 => okSI (lcSI g c f d.2 (wipeE ρ vs) d.1 [] S1)
theorem scanBound_64 : 64 ≤ scanBound := by decide
section
variable {X : Cx} {W : WX}
theorem imp_srtI {wi : TI} {fi : Env → Sto → Rs IDt} {g : GD} {c : BD} {f : ED} {vs : List Nat} (ii : Imp X W (fun K m S H (d : IDt) (J : It) => ItOk K m S H J d.1 d.2) wi fi) :
    Imp X W RD (tCB (rSortedSet X.w) (tCons (tSetI X.w wi (canG X vs g) (can X (fun _ _ _ _ => False) RB c) (can X (fun _ _ _ _ => False) RD f) vs) tNil)) (eSrtI fi g c f vs) := by
  intro κ ρ S σ H m Q rl re h
  refine ii.seq rl re h fun d S1 J H1 m1 x1 rl1 re1 iok h1 => ?_
  obtain ⟨ds, chk⟩ := d
  have iok : ItOk (KX X κ) m1 S1 H1 J ds chk := iok
  intro L hL
  have hnk : ¬ κ L := fun z => by
    obtain ⟨u, e, _⟩ := (rl1.hid L z).2
    rw [hL] at e; cases e
  let κ' : Addr → Prop := fun a => κ a ∨ a = L
  have hsub : ∀ a, κ' a → κ a ∨ H1 a = none := fun a z => z.elim .inl fun z => .inr (by rw [z]; exact hL)
  have hL' : κ' L := .inr rfl
  let at_ : List Int → HO := fun acc => SetO X.w L (fun j => decide (j ∈ acc)) acc.length
  let St' : Nat → Hp → Prop := fun i H2 => ∃ S2 m2 acc, Nx (KX X κ) m1 S1 H1 m2 S2 H2 ∧ Rl (KX X κ') m2 S2 H2 ∧ chk S2 ∧ H2 L = some (at_ acc) ∧ acc.Nodup ∧ acc.length < 64 ∧
    Post X κ W m1 S1 H1 σ (RD (KX X κ)) (okSI (lcSI g c f chk (wipeE ρ vs) (ds.drop i) acc S2)) Q
  refine ⟨fun i n H2 => n = ds.length - i ∧ i ≤ ds.length ∧ St' i H2, ⟨ds.length, by simp, Nat.zero_le _, S1, m1, [], Nx.new rl1 hL, rl1.hide hL trivial, iok.here, ?_, .nil, by decide, h1⟩, ?_⟩
  · rw [upd_same]
    show some (SetO X.w L noI 0) = some (SetO X.w L (fun j => decide (j ∈ [])) 0)
    congr 2
  rintro i n H2 ⟨rfl, hi, S2, m2, acc, x2, rl2, ck, eL, nd, l64, h2⟩
  by_cases hlt : i < ds.length
  · have ed : ds.drop i = ds[i] :: ds.drop (i + 1) := List.drop_eq_getElem_cons hlt
    rw [ed] at h2
    obtain ⟨hgo, hy⟩ := iok.go κ' m2 S2 H2 i ds[i] hsub x2 rl2 ck (List.getElem?_eq_getElem hlt)
    refine .inr ⟨hgo, fun H' => i + 1 ≤ ds.length ∧ St' (i + 1) H', fun H' z => ⟨ds.length - (i + 1), by omega, rfl, z.1, z.2⟩, fun x H'' y => ?_⟩
    obtain ⟨x3, rl3, r3⟩ := hy x H'' y
    have re3 : RE (KX X κ') m2 S2 H'' (wipeE ρ vs) (L2.wipe σ vs) := (RE.nxh (K := KX X κ) x2 hsub (RE.wipe re1 vs)).nx x3
    unfold lcSI at h2
    refine ⟨κ', ds[i], wipeE ρ vs, S2, m2, rl3, re3, r3, ?_⟩
    cases e1 : g ds[i] (wipeE ρ vs) S2 with
    | st => simp only [e1] at h2 <;> exact h2.elim
    | ex _ _ => simp only [e1] at h2 <;> exact h2.elim
    | ok ρ4 S4 =>
      simp only [e1] at h2
      intro σ4 H4 m4 x4 rl4 re4 wp
      refine ⟨wp.trans (wipe_wipe σ vs (fun _ z => z)), κ', ρ4, S4, m4, rl4, re4, ?_⟩
      cases e2 : c ρ4 S4 with
      | st => simp only [e2] at h2 <;> exact h2.elim
      | ex _ _ => simp only [e2] at h2 <;> exact h2.elim
      | ok b S5 =>
        intro b' H5 m5 x5 rl5 eb
        have eb : b = b' := eb
        subst eb
        have x25 := x3.trans (x4.trans x5)
        cases b with
        | true =>
          simp only [e2] at h2
          rw [if_pos rfl]
          refine ⟨κ', ρ4, S5, m5, rl5, re4.nx x5, ?_⟩
          cases e3 : f ρ4 S5 with
          | st => simp only [e3] at h2 <;> exact h2.elim
          | ex _ _ => simp only [e3] at h2 <;> exact h2.elim
          | ok y5 S6 =>
            simp only [e3] at h2
            split at h2
            · rename_i _ k Sz ez
              cases ez
              intro v6 H6 m6 x6 rl6 r6
              by_cases hk : acc.length + 1 < 64 ∧ chk S6
              · rw [if_pos hk] at h2
                have x27 := x25.trans x6
                have eL6 : H6 L = some (at_ acc) := (x27.hid L hL').trans eL
                refine ⟨k, _, acc.length, RD.int r6, eL6, Nat.lt_of_lt_of_le hk.1 scanBound_64, hlt, S6, m6, addS acc k, ?_, rl6.hidw hL' trivial, hk.2, ?_, addS_nodup nd, ?_, h2⟩
                · exact Nx.hidw (x2.hidden (h' := κ') x27 (fun a z => .inl z) hsub) hL ⟨_, eL6, trivial⟩ hnk
                · rw [upd_same]
                  show some (SetO X.w L _ _) = some (SetO X.w L _ _)
                  have f1 : withI (fun j => decide (j ∈ acc)) k = fun j => decide (j ∈ addS acc k) := by
                    funext j
                    simp only [withI, mem_addS, Bool.decide_or]
                  have f2 : numI (fun j => decide (j ∈ acc)) k acc.length = (addS acc k).length := by
                    simp only [numI, addS, decide_eq_true_eq]
                    split <;> simp
                  rw [f1, f2]
                · unfold addS
                  split
                  · omega
                  · rw [List.length_append, List.length_singleton]; exact hk.1
              · rw [if_neg hk] at h2 <;> exact h2.elim
            · exact h2.elim
        | false =>
          simp only [e2] at h2
          rw [if_neg Bool.false_ne_true]
          by_cases hk : chk S5
          · rw [if_pos hk] at h2
            refine ⟨hlt, S5, m5, acc, x2.hidden (h' := κ') x25 (fun a z => .inl z) hsub, rl5, hk, (x25.hid L hL').trans eL, nd, l64, h2⟩
          · rw [if_neg hk] at h2 <;> exact h2.elim
  · have e0 : ds.drop i = [] := List.drop_eq_nil_of_le (Nat.le_of_not_lt hlt)
    rw [e0] at h2
    refine .inl ⟨iok.stop κ' m2 S2 H2 i hsub x2 rl2 ck (Nat.le_of_not_lt hlt), ?_⟩
    refine ⟨L, _, acc.length, rfl, eL, l64, fun ns p hs hm hl hp => ?_⟩
    have en : ns = srtI acc := sorted_one hs (srtI_sorted nd) fun j => by rw [hm, mem_srtI]; exact decide_eq_true_iff
    subst en
    have rl3 : Rl (KX X κ) m2 S2 H2 := Rl.unh (K := KX X κ') (h' := κ) (fun a z => .inl z) rl2
    have hpm : ¬ lv (KX X κ) m2 S2 p := by
      rintro (z | ⟨k, o, z1, z2, z3⟩)
      · obtain ⟨u, e, _⟩ := (rl3.hid p z).2
        rw [hp] at e; cases e
      · obtain ⟨u, e⟩ := rl3.in_some (List.mem_of_getElem? z1)
        rw [hp] at e; cases e
    refine h2 (.ref p) _ m2 (x2.trans (Nx.new rl3 hp)) (Rl.new rl3 hp) ?_
    show RP _ _ _ _ _
    rw [RP]
    refine ⟨p, _, rfl, upd_same, hpm, ?_⟩
    rw [RPs_iff]
    generalize upd H2 p _ = Hz
    generalize srtI acc = l
    induction l with
    | nil => exact .nil
    | cons k l ih => exact .cons (by rw [RP]) ih
theorem de_srtI {elt tg iter : Expr} {ifs : List Expr} {scope : Scope} {own : List (Str × Nat)} {fi : Env → Sto → Rs IDt} {g : GD} {c : BD} {f : ED} {pos p cpos : Pos} (hc : X.calm = true) (hN : X.N.Nodup) (hl : Gl X "sorted") (hm : X.mg "sorted" = none) (hi : DI X W tg iter fi) (ok : BlkOk X.N X.env.scope scope own)
    (hg : ∀ (s : Shared) (H : Hp) (C : Addr) (cl : List (Str × Addr)) (fp : List Addr), DGw (X.blk s H scope (compEnvC scope cl C X.env) fp) tg (own.map fun x => x.2) g)
    (ht : ∀ (s : Shared) (H : Hp) (C : Addr) (cl : List (Str × Addr)) (fp : List Addr), DTs (X.blk s H scope (compEnvC scope cl C X.env) fp) (fun _ _ _ _ => False) ifs c)
    (he : ∀ (s : Shared) (H : Hp) (C : Addr) (cl : List (Str × Addr)) (fp : List Addr), DE (X.blk s H scope (compEnvC scope cl C X.env) fp) (fun _ _ _ _ => False) elt f)
    (hs : ∀ x, foldedSetIterable iter X.env x = pure x := by intro _; rfl)
    (hst : starEach [.SetComp elt [⟨tg, iter, ifs, 0⟩] scope pos] X.env = (false, eval (.SetComp elt [⟨tg, iter, ifs, 0⟩] scope pos) X.env) :: starEach [] X.env := by rfl) :
    DE X W (.Call (.Name "sorted" p) [.SetComp elt [⟨tg, iter, ifs, 0⟩] scope pos] [] cpos) (eSrtI fi g c f (own.map fun x => x.2)) := by
  obtain ⟨wi, pi, ii⟩ := hi
  have q := @pe_setI X elt tg iter ifs scope own pos wi (canG X (List.map (fun (x : Str × Nat) => x.2) own) g) (can X (fun _ _ _ _ => False) RB c) (can X (fun _ _ _ _ => False) RD f) hc hN pi ok (fun s H C cl fp => (hg s H C cl fp).run) (fun s H C cl fp => (ht s H C cl fp).run) (fun s H C cl fp => (he s H C cl fp).can) hs
  exact ⟨_, pe_callB (cr_sortedSet hc) hl hm (by decide +kernel) (pa_cons q pa_nil hst) (by decide) (by decide) hst rfl, imp_srtI ii⟩
end
end DL

/-! all words that come out step by step, told at once -/
namespace DL
open PySem PySem.Spec PyProof.Rows L2
theorem mSet0 {α : Type} {x a : α} {xs : List α} : (x :: xs).set 0 a = a :: xs := List.set_cons_zero
theorem mSet1 {α : Type} {x a : α} {xs : List α} {n : Nat} : (x :: xs).set (n + 1) a = x :: xs.set n a := List.set_cons_succ
theorem mGet0 {α : Type} {a : α} {l : List α} : (a :: l)[0]? = some a := List.getElem?_cons_zero
theorem mGet1 {α : Type} {a : α} {l : List α} {n : Nat} : (a :: l)[n + 1]? = l[n]? := List.getElem?_cons_succ
theorem mJoin {α : Type} {o : Option α} : (some o).join = o := Option.join_some
theorem mMap {α β : Type} {f : α → β} {a : α} : (some a).map f = some (f a) := Option.map_some a f
theorem mBind {α β : Type} {f : α → Option β} {a : α} : (some a).bind f = f a := Option.bind_some a f
theorem mLen1 {α : Type} {a : α} {l : List α} : (a :: l).length = l.length + 1 := List.length_cons
theorem mLen0 {α : Type} : ([] : List α).length = 0 := List.length_nil
theorem mSome {α : Type} {a : α} : (some a).isSome = true := Option.isSome_some
theorem mNil {α : Type} {l : List α} : l ++ [] = l := List.append_nil l
theorem mIt1 {α : Type} {a b : α} {h : Decidable True} : (if True then a else b) = a := if_true a b
theorem mIt0 {α : Type} {a b : α} {h : Decidable False} : (if False then a else b) = b := if_false a b
theorem mIp1 {a b : Prop} {h : Decidable True} : (if True then a else b) = a := if_true a b
theorem mIp0 {a b : Prop} {h : Decidable False} : (if False then a else b) = b := if_false a b
def wqm := And.intro @mSet0 (And.intro @mSet1 (And.intro @mGet0 (And.intro @mGet1 (And.intro @mJoin (And.intro @mMap (And.intro @mBind (And.intro @mLen1 (And.intro @mLen0 (And.intro @mSome (And.intro @mNil (And.intro @mIt1 (And.intro @mIt0 (And.intro @mIp1 @mIp0)))))))))))))
def wq0 := And.intro @WE_ok (And.intro @WE_bind (And.intro @WE_ite (And.intro @WE_no (And.intro @WS_nx (And.intro @WS_rt (And.intro @WS_bk (@WS_ct)))))))
def wq1 := And.intro @WS_lift (And.intro @WS_seq (And.intro @WS_ite (And.intro @oRs_some (And.intro @eVar_ap (And.intro @eC_ap (And.intro @eBin_ap (@isB_bl)))))))
def wq2 := And.intro @asB_ap (And.intro @bAnd_ap (And.intro @bOr_ap (And.intro @bNot_ap (And.intro @bTru_ap (And.intro @eAnd_wp (And.intro @eOr_wp (@eNot_wp)))))))
def wq3 := And.intro @andR_bl (And.intro @orR_bl (And.intro @notR_bl (And.intro @decide_eq_true_eq (And.intro @gAny_lst (And.intro @gAll_lst (And.intro @gSum_lst (@chkOf_p)))))))
def wq4 := And.intro @lItems_lst (And.intro @eNeg_ap (And.intro @eIf_ap (And.intro @aNil_ap (And.intro @aCons_ap (And.intro @eTup_ap (And.intro @eLst_ap (@eLstO_ap)))))))
def wq5 := And.intro @eB_ap (And.intro @eCall_ap (And.intro @eMth_ap (And.intro @eIsi_ap (And.intro @eSl_ap (And.intro @oNone_ap (And.intro @oSome_ap (@eLc_ap)))))))
def wq6 := And.intro @sSeq_ap (And.intro @sNil_ap (And.intro @sBrk_ap (And.intro @sCnt_ap (And.intro @sExpr_ap (And.intro @rtO_some (And.intro @sRetR_ap (@sRetN_ap)))))))
def wq7 := And.intro @sIf_ap (And.intro @sSet_ap (And.intro @nxG_ok (And.intro @sAsg_ap (And.intro @sAug_ap (And.intro @gNm_ap (And.intro @iRgA_ap (@iRgB_ap)))))))
def wq8 := And.intro @iTpl_ap (And.intro @iLst_ap (And.intro @restD_p' (And.intro @restAll_nil (And.intro @restAll_cons (And.intro @gAdd_int (And.intro @gAdd_str (@gAdd_tup)))))))
def wq9 := And.intro @gAdd_lst (And.intro @gAddI_int (And.intro @gSub_int (And.intro @gMul_int (And.intro @gMod_int (And.intro @gFdv_int (And.intro @gPow_int (@gLt_int)))))))
def wq10 := And.intro @gLe_int (And.intro @gGt_int (And.intro @gGe_int (And.intro @gEq_int (And.intro @gEq_str (And.intro @gEq_bl (And.intro @atI_nat' (@atI_0)))))))
def wq11 := And.intro @atI_1 (And.intro @atI_2 (And.intro @atI_3 (And.intro @atI_4 (And.intro @atI_5 (And.intro @gIx_tup (And.intro @gIx_lst (@gIx_scr)))))))
def wq12 := And.intro @gIx_ob (And.intro @obL_lst (And.intro @obL_fz (And.intro @gLen_tup (And.intro @gLen_lst (And.intro @gLen_scr (And.intro @gLen_ob (@gToInt_int)))))))
def wq13 := And.intro @gToInt_bl (And.intro @gToStr_int (And.intro @truD_bl (And.intro @gMin2_int (And.intro @gMax2_int (And.intro @isLst_ob (And.intro @isLst_lst (@obO_lst)))))))
def wq14 := And.intro @oLst_ob (And.intro @appO_some (And.intro @gApp_ap (And.intro @gSetL_ap (And.intro @okE_some (And.intro @setL_ob (And.intro @ixN_0 (@ixN_1)))))))
def wq15 := And.intro @sizeLine_val (And.intro @rngL_length (And.intro @Bool.false_eq_true (And.intro @Bool.false_xor (And.intro @Bool.true_xor (And.intro @and_self (And.intro @Bool.not_true (@Bool.not_false)))))))
def wq16 := And.intro @bYes_ap (And.intro @gIsN_ap (And.intro @isNoneD_int (And.intro @isNoneD_none (@Bool.not_not))))
def wpW := And.intro wqm (And.intro wq0 (And.intro wq1 (And.intro wq2 (And.intro wq3 (And.intro wq4 (And.intro wq5 (And.intro wq6 (And.intro wq7 (And.intro wq8 (And.intro wq9 (And.intro wq10 (And.intro wq11 (And.intro wq12 (And.intro wq13 (And.intro wq14 (And.intro wq15 (wq16)))))))))))))))))
end DL

/-! is True, is False -/
namespace DL
open PySem PySem.Spec PyProof.Rows L2
section
variable {X : Cx} {W : WX} {m : List Addr} {S : Sto} {H : Hp} {σ : St} {κ : Addr → Prop}
def gIsA (neg : Bool) : D → D → Sto → Rs D := fun x y S => match x, y with
  | .p a, .p .none => .ok (.bl (neg ^^ isNoneD a)) S
  | .p (.bool a), .p (.bool b) => .ok (.bl (neg ^^ decide (a = b))) S
  | _, _ => .st
theorem od_isA : OpD X W (compareOp .Is) (gIsA false) := by
  refine ⟨_, OpR.or op_isN op_is_bl, fun κ x y vx vy m S H σ Q rl rx ry h => ?_⟩
  unfold gIsA at h
  split at h
  · exact .inl ⟨ry.non, by rw [isN_of rx]; exact h.ok' .refl rl (by rw [Bool.false_xor]; exact RD.bl_)⟩
  · exact .inr ⟨_, _, rx.bl, ry.bl, h.ok' .refl rl (by rw [Bool.false_xor]; exact RD.bl_)⟩
  · exact h.elim
theorem od_isnotA : OpD X W (compareOp .IsNot) (gIsA true) := by
  refine ⟨_, OpR.or op_notN op_isnot_bl, fun κ x y vx vy m S H σ Q rl rx ry h => ?_⟩
  unfold gIsA at h
  split at h
  · exact .inl ⟨ry.non, by rw [isN_of rx]; exact h.ok' .refl rl (by rw [Bool.true_xor]; exact RD.bl_)⟩
  · exact .inr ⟨_, _, rx.bl, ry.bl, h.ok' .refl rl (by rw [Bool.true_xor]; exact RD.bl_)⟩
  · exact h.elim
theorem gIsA_bl {neg a b : Bool} {S : Sto} : gIsA neg (.p (.bool a)) (.p (.bool b)) S = .ok (.bl (neg ^^ decide (a = b))) S := rfl
end
end DL

/-! repr of data, where nothing is under way; the law's own call from the top -/
namespace DL
open PySem PySem.Spec PyProof.Rows L2
section
variable {X : Cx} {W : WX} {m m1 : List Addr} {S S1 : Sto} {H H1 : Hp} {σ : St} {ρ : Env} {κ : Addr → Prop}
def boxD : PyData → Bool
  | .tuple _ => true
  | .list _ => true
  | _ => false
theorem call_reprD (hg : X.A.guards = some []) (hu : X.A.units + 66 < cLine) : CallR X (.builtin "repr") (fun xs H Q => ∃ d v, xs = [v] ∧ Dp X.K H v d ∧ boxD d = true ∧ d.showable = true ∧ d.hasDict = false ∧ d.depth ≤ 64 ∧ d.shown.length ≤ sizeLine ∧ Q (.str d.shown) H) := by
  intro pins s σ H xs us Q I r h
  obtain ⟨d, v, rfl, hd, hb, h1, h2, h3, h4, q⟩ := h
  cases r with
  | cons r rt =>
  cases rt
  rename_i u
  obtain ⟨as, rd⟩ := Dp.reads I d v u hd r
  have key : ∀ {a : Addr}, Reads s.heap (.ref a) d as → wpAny (model X.prog X.w) X.A (call (.builtin "repr") [.ref a]) (EP X pins σ Q) X.xe s := fun {a} rd => by
    refine repr_of_reads' rd h1 (fun e => by rw [h2] at e; cases e) hg (by omega) (fun _ _ e => e) (fun h' u tk hk => ?_) h4
    exact ⟨.str _, H, I.call (t' := tk) (ch := []) (Un.kept hk) (I.hok.kept hk) I.bare (fun _ z => nomatch z), ⟨_, rfl⟩, q⟩
  cases hd <;> first
    | (cases hb; done)
    | skip
  all_goals
    cases r
    exact key rd
end
end DL
namespace DL
open PySem PySem.Spec PyProof.Rows L2
section
variable {X : Cx} {W : WX} {m m1 : List Addr} {S S1 : Sto} {H H1 : Hp} {σ : St} {ρ : Env} {κ : Addr → Prop}
open Classical in
noncomputable def gReprA : FD := fun ds S => match ds with
  | [x] => (match pNow S x with
    | some d => if boxD d = true then (if d.showable = true ∧ d.hasDict = false ∧ d.depth ≤ 64 ∧ d.shown.length ≤ sizeLine then .ok (.str d.shown) S else .st) else gRepr [x] S
    | none => .st)
  | _ => .st
theorem call_or {id : Value} {r r' : List V → Hp → VK → Prop} (h : CallR X id r) (h' : CallR X id r') : CallR X id (fun xs H Q => r xs H Q ∨ r' xs H Q) := by
  intro pins s σ H xs us Q I rv hq
  rcases hq with hq | hq
  · exact h pins s σ H xs us Q I rv hq
  · exact h' pins s σ H xs us Q I rv hq
theorem cd_reprA (hg : X.A.guards = some []) (hu : X.A.units + 66 < cLine) : CD X W (.builtin "repr") gReprA := by
  obtain ⟨r, hr, h0⟩ := cd_repr (X := X) (W := W)
  refine ⟨_, call_or hr (call_reprD hg hu), fun κ ds vs m S H σ Q rl rd h => ?_⟩
  unfold gReprA at h
  split at h
  · split at h
    · rename_i x d ed
      split at h
      · rename_i hb
        split at h
        · rename_i hs
          obtain ⟨v, rfl, r⟩ := RDs1 rd
          exact .inr ⟨d, v, rfl, r.now rl ed, hb, hs.1, hs.2.1, hs.2.2.1, hs.2.2.2, h.ok' .refl rl RD.str_⟩
        · exact h.elim
      · exact .inl (h0 κ _ vs m S H σ Q rl rd h)
    · exact h.elim
  · exact h.elim
end
/-! ### the law, called from the top -/
section
variable {P : Program} {w : World} {K : PySem.W.Frag} {mg mb : Str → Option Value} {fa a : Addr} {s₁ : Shared} {vs : List Value} {ns : List Int}
/-- nothing but the script is told of, and it is none of the module's own things -/
structure Lone (P : Program) (w : World) (K : PySem.W.Frag) (s₁ : Shared) (a : Addr) (ns : List Int) (H : Hp) : Prop where
  only : Only H
  seq : SqL K H a (ns.map V.int)
  ok : HOk P w H s₁.heap
  at_ : ∀ b u, H b = some u → b = a ∧ K.lookup a = none
theorem lone_of (KX : K.In s₁.heap) (ha : s₁.heap.get? a = some { cls := .type "list", data := .seq vs.toArray }) (hi : IntsAre vs ns) (hl : ns.length ≤ sizeLine) : ∃ H, Lone P w K s₁ a ns H := by
  have lv := hi.length
  have rv := vals_ints hi
  cases ek : K.lookup a with
  | some o =>
    have eo := KX a o ek
    rw [ha] at eo
    obtain rfl := Option.some.inj eo
    refine ⟨fun _ => none, fun _ => .inl rfl, .inr ⟨_, vs.toArray, _, ek, rfl, rfl, rfl, ?_, by simpa using rv⟩, fun b u z => (by cases (show (none : Option HO) = some u from z)), fun b u z => (by cases (show (none : Option HO) = some u from z))⟩
    rw [List.size_toArray, lv]
    exact hl
  | none =>
    let Hs : Hp := upd (fun _ => none) a (.frz { cls := .type "list", data := .seq vs.toArray } (.lst (ns.map V.int)))
    have hs : ∀ b u, Hs b = some u → b = a := fun b u z => by
      by_cases e : b = a
      · exact e
      · rw [show Hs b = none from upd_ne e] at z; cases z
    have hsa : Hs a = some (.frz { cls := .type "list", data := .seq vs.toArray } (.lst (ns.map V.int))) := upd_same
    refine ⟨Hs, fun b => ?_, .inl (.inr ⟨_, hsa⟩), fun b u z => ?_, fun b u z => ⟨hs b u z, ek⟩⟩
    · cases eb : Hs b with
      | none => exact .inl rfl
      | some u =>
        have e := hs b u eb
        subst e
        rw [hsa] at eb
        exact .inr ⟨_, _, eb.symm⟩
    · have e := hs b u z
      subst e
      rw [hsa] at z
      obtain rfl := Option.some.inj z
      exact ⟨ha, by rw [List.length_map]; exact hl, vs, _, rv, ha⟩
theorem lone_env {H : Hp} (L : Lone P w K s₁ a ns H) (KX : K.In s₁.heap) (hns : s₁.heap.Ns mainGlobals mg) (hb : s₁.heap.Ns builtinsNs mb) (hbb : ∀ x : Str, x ≠ "__name__" → mb x = bootBuiltins x) (hlim : s₁.heap.NoLimit) (hg : s₁.gens = #[])
    (ha : s₁.heap.get? a = some { cls := .type "list", data := .seq vs.toArray }) : K.In (hidT s₁.heap H) ∧ (hidT s₁.heap H).Ns mainGlobals mg ∧ Env0 P w K mg (hidT s₁.heap H) callerA [] s₁ H := by
  have shown : ∀ {b : Addr} {o : Obj}, s₁.heap.get? b = some o → H b = none → (hidT s₁.heap H).get? b = some o := fun e z => hidT_get e z
  have nodict : ∀ {b : Addr} {o : Obj} {es : Array DictEntry} {ep : Nat}, s₁.heap.get? b = some o → o.data = .dict es ep → H b = none := by
    intro b o es ep e ed
    cases eb : H b with
    | none => rfl
    | some u =>
      obtain ⟨rfl, _⟩ := L.at_ b u eb
      rw [ha] at e
      obtain rfl := Option.some.inj e
      cases (show Data.seq vs.toArray _ = Data.dict es ep from ed)
  have spaces : ∀ {b : Addr} {mm : Str → Option Value}, s₁.heap.Ns b mm → (hidT s₁.heap H).Ns b mm := by
    rintro b mm ⟨o, es, ep, e, ed, r⟩
    exact ⟨o, es, ep, shown e (nodict e ed), ed, r⟩
  have inK : K.In (hidT s₁.heap H) := by
    intro b o e
    refine shown (KX b o e) ?_
    cases eb : H b with
    | none => rfl
    | some u =>
      obtain ⟨rfl, z⟩ := L.at_ b u eb
      rw [z] at e
      cases e
  obtain ⟨mc, l1, l2⟩ := hlim
  have e0 : Env0 P w K mg (hidT s₁.heap H) callerA [] s₁ H := ⟨rfl, ⟨inK, spaces hns, ⟨mb, spaces hb, hbb⟩, ⟨mc, spaces l1, l2⟩⟩, fun b o e => of_hidT e, Nat.le_of_eq (hidT_size _ _), trivial, fun b z => absurd (show b ∈ ([] : List Addr) from z) (by simp), L.ok, .of_eq hg⟩
  exact ⟨inK, spaces hns, e0⟩
theorem law_runs {sp : Sp} (KX : K.In s₁.heap) (hns : s₁.heap.Ns mainGlobals mg) (hb : s₁.heap.Ns builtinsNs mb) (hbb : ∀ x : Str, x ≠ "__name__" → mb x = bootBuiltins x) (hlim : s₁.heap.NoLimit) (hg : s₁.gens = #[])
    (ha : s₁.heap.get? a = some { cls := .type "list", data := .seq vs.toArray }) (hi : IntsAre vs ns) (hl : ns.length ≤ sizeLine)
    (run : ∀ (base : Heap) (H : Hp) (Q : VK) (E : XK), K.In base → base.Ns mainGlobals mg → Env0 P w K mg base callerA [] s₁ H → sp [.ref a] H Q E → codeAny (model P w) callerA (.call (.ref fa) ⟨[.ref a], []⟩) (CR CX0 [] P w H s₁ Q E) s₁)
    (hsp : ∀ H : Hp, Only H → SqL K H a (ns.map V.int) → sp [.ref a] H (fun v _ => v = .bl true) fun _ _ _ => False) :
    codeAny (model P w) callerA (.call (.ref fa) ⟨[.ref a], []⟩) (fun r s' => r = .ok (.ret (.bool true)) ∧ OldK s₁.heap s'.heap ∧ s'.os = s₁.os ∧ AllBare s'.gens) s₁ := by
  obtain ⟨H, L⟩ := lone_of (P := P) (w := w) KX ha hi hl
  obtain ⟨k1, k2, e0⟩ := lone_env L KX hns hb hbb hlim hg ha
  refine codeAny_mono (run _ H _ _ k1 k2 e0 (hsp H L.only L.seq)) fun r s' h => ?_
  match r, h with
  | .error e, h => exact h.elim
  | .ok .next, h => exact h.elim
  | .ok .brk, h => exact h.elim
  | .ok .cont, h => exact h.elim
  | .ok (.ret u), h =>
    obtain ⟨v, H', os, bare, un, ok', ru, ev⟩ := h
    have ev : v = .bl true := ev
    subst ev
    have eu : u = Value.bool true := ru
    subst eu
    refine ⟨rfl, OldK.of_keep fun b o e => ?_, os, bare⟩
    cases eb : H b with
    | none => exact un.keep b o e eb (fun z => absurd (show b ∈ ([] : List Addr) from z) (by simp)) (by simp)
    | some u =>
      rcases L.only b with z | ⟨ob, xs, z⟩
      · rw [eb] at z; cases z
      · obtain ⟨e1, _⟩ := L.ok b _ z
        obtain ⟨e2, _⟩ := ok' b _ (un.frzs b ob _ z)
        rw [e] at e1
        obtain rfl := Option.some.inj e1
        exact e2
/-- a def, called where no repr is under way -/
theorem run_at {base : Heap} {x : Str} {st : Stmt} {f : Addr} {fd : FuncData} {N ps : List Str} {k n : Nat} {F : SD} {A : Around} {outer : List PySem.Env} {s : Shared} {H : Hp} {args : Args} {us : List Value} {zs : List V} {Q : VK} {E : XK}
    (Fu : FunS K x st f fd) (Sc : FnScope N ps (defScope st)) (hr : Room (k + 1) A) (hgd : A.guards = some [])
    (body : ∀ (cdv : Value) (A : Around) (outer : List PySem.Env) (s : Shared) (H : Hp) (E : XK), Room k (A.deeper (envOfC x (defScope st) s.heap.objs.size f cdv)) → (A.deeper (envOfC x (defScope st) s.heap.objs.size f cdv)).guards = some [] →
      DSs (cxOf CX0 P w K mg base N x (defScope st) f cdv A outer s H E).nox (fun _ _ _ _ => False) (defBody st) F)
    (hn : ps.length = n) (e0 : Env0 P w K mg base A outer s H) (hb : BindsTo s fd args (ps.zip us)) (rv : Vals zs us) (hsp : spOf K mg n (fun ds S => noEx (gB N F ds S)) zs H Q E) :
    codeAny (model P w) A (.call (.ref f) args) (CR CX0 outer P w H s Q E) s := by
  obtain ⟨oc, od, dV, kV, doc, pm, an, cdv, ct, osl, rfl, lk, hcd, _, _⟩ := Fu.ex
  have hl : zs.length = ps.length := hsp.1.trans hn.symm
  have inS : K.In s.heap := e0.mod.kin.keeps fun b o e => (e0.bs b o e).1
  have room : s.heap.NoLimit := e0.mod.nolimit.keeps fun b o e => (e0.bs b o e).1
  have kinds : ∀ y ∈ ps.zip us, (defScope st).names.lookup y.1 = some .local ∨ ((defScope st).names.lookup y.1 = some .cell ∧ ((cellsFrom (s.heap.objs.size + 1) (defScope st).names []).lookup y.1).isSome = true) := by
    rintro ⟨y, v⟩ hy
    exact (Sc.par y (List.of_mem_zip hy).1).imp id fun q => ⟨q, PySem.W.cellsFrom_some _ _ _ (.inl q)⟩
  refine codeAny_call_function hr.depth (inS _ _ lk) rfl Sc.co Sc.gen rfl (PySem.W.codeRec_of inS hcd) (hb _ _ _ _ (wpAny_newFunctionEnv_cells Sc.kind kinds fun env he t1 laid => ?_))
  subst he
  refine ⟨room.keeps laid.toInCall.keep, codeAny_func ?_⟩
  obtain ⟨hl2, κ, ds, S, m, rl, rd, po⟩ := hsp
  obtain ⟨t, pt, it⟩ := body cdv A outer s H E (hr.deeper _) hgd
  have start := inv_start (CX := CX0) (E := E) Sc hr.hd e0 hl rv laid
  have entry : t { nx := fun _ H' => Q .non H', rt := Q } (L2.start N zs) H := by
    refine it κ (start0 N ds) S (L2.start N zs) H m _ rl (RE_start rd) (post_of (E := fun _ _ _ => False) rl (gB_dn N F ds S) ?_ (fun _ _ _ _ z => z))
    have po : PostF ⟨K, κ⟩ mg m S H (noEx (gB N F ds S)) Q E := po
    cases e : gB N F ds S with
    | st => rw [e] at po; exact po.elim
    | ok d S' => rw [e] at po; exact po
    | ex y S' => rw [e] at po; exact po.elim
  have told : ∀ {σ' : L2.St} {H' : Hp} {v : V} {u : Value} {s' : Shared}, Inv (cxOf CX0 P w K mg base N x (defScope st) f cdv A outer s H E) [] σ' H' s' → RelV v u → Q v H' → CE outer P w H s Q u s' :=
    fun {σ' H' v u s'} J rv q => ⟨v, H', J.os, J.bare, J.base, J.hok, rv, q⟩
  refine wpAny_mono (pt.nox.run [] t1 (L2.start N zs) H _ start entry) (fun fl s' hs => ?_) fun e s' hs => hs
  match fl, hs with
  | .ret u, hs => exact let ⟨v, σ', H', J, rv, q⟩ := hs; told J rv q
  | .next, hs => exact let ⟨σ', H', J, q⟩ := hs; told (v := V.non) (u := Value.none) J rfl q
  | .brk, hs => exact let ⟨_, _, _, q⟩ := hs; False.elim q
  | .cont, hs => exact let ⟨_, _, _, q⟩ := hs; False.elim q
/-- the law's walk, its def at the top -/
theorem walk_at {l : PySem.W.OpenLaw} {n k : Nat} {q : Program} {loose : List Str} {XP : (Str → Option Value) → Heap → Prop} {YP : World → Heap → Prop} {d : DefRec} {x : Str}
    (hn : l.most = some n) (hn2 : n ≤ sizeLine) (hdf : d.params.defaults = [])
    (F : ∀ (w : World) (mg : Str → Option Value) (fa : Addr) (h : Heap), YP w h → h.Ns mainGlobals mg → mg d.name = some (.ref fa) →
      ∃ (K : PySem.W.Frag) (sp : Sp), K.In h ∧
        (∀ (H : Hp) (a : Addr) (ns : List Int), ns.length ≤ n → Only H → SqL K H a (ns.map V.int) → sp [.ref a] H (fun v _ => v = .bl true) fun _ _ _ => False) ∧
        ∀ (base : Heap) (s : Shared) (H : Hp) (a : Addr) (Q : VK) (E : XK), K.In base → base.Ns mainGlobals mg → Env0 l.prog w K mg base callerA [] s H → sp [.ref a] H Q E → codeAny (model l.prog w) callerA (.call (.ref fa) ⟨[.ref a], []⟩) (CR CX0 [] l.prog w H s Q E) s) :
    PySem.W.WalkO q loose XP YP l.row.toRowW d [] (fun f vs => PySem.call f vs) := by
  refine Att.attach_call hn hdf fun w s₀ s₁ mg mb fa o pm cd doc a vs ns G Y ho hd hcd hmg hobj hints hlen hg => ?_
  obtain ⟨K, sp, KX, hsp, run⟩ := F w mg fa _ Y G.T.g hmg
  exact law_runs KX G.T.g G.T.b G.T.builtins G.T.nolimit hg hobj hints (Nat.le_trans hlen hn2) (fun base H Q E k1 k2 e0 h => run base s₁ H a Q E k1 k2 e0 h) fun H hO hS => hsp H a ns hlen hO hS
end
end DL

/-! while -/
namespace DL
open PySem PySem.Spec PyProof.Rows L2
section
variable {X : Cx} {W : WX} {pos : Pos}
noncomputable def whileL (c : BD) (body : SD) : Nat → Env → Sto → Out
  | 0, _, _ => .st
  | n + 1, ρ, S => liftS ρ (c ρ S) fun b S1 => if b = true then (match body ρ S1 with
    | .nx ρ2 S2 => whileL c body n ρ2 S2
    | .ct ρ2 S2 => whileL c body n ρ2 S2
    | .bk ρ2 S2 => .nx ρ2 S2
    | o => o) else .nx ρ S1
noncomputable def sWhile (n : Nat) (c : BD) (body : SD) : SD := fun ρ S => whileL c body n ρ S
theorem ds_while {c : Expr} {body : List Stmt} {ba : BD} {fb : SD} {n : Nat} (hp : PassesOwn (model X.prog X.w) X.A X.env X.xe) (hc : DT X W c ba) (hb : DSs X W body fb) : DS X W (.While c body [] pos) (sWhile n ba fb) := by
  obtain ⟨tc, pc, ic⟩ := hc
  obtain ⟨tb, pb, ib⟩ := hb
  refine ⟨_, ps_while hp pc pb, fun κ ρ S σ H m Dn rl re h => ?_⟩
  refine ⟨fun k σ' H' => ∃ ρ' S' m', Nx (KX X κ) m S H m' S' H' ∧ Rl (KX X κ) m' S' H' ∧ RE (KX X κ) m' S' H' ρ' σ' ∧ PostS X κ W m' S' H' (whileL ba fb k ρ' S') Dn, ⟨n, ρ, S, m, .refl, rl, re, h⟩, ?_⟩
  rintro k σ2 H2 ⟨ρ2, S2, m2, x2, rl2, re2, h2⟩
  cases k with
  | zero => exact h2.elim
  | succ k =>
    unfold whileL at h2
    refine ic.seqS rl2 re2 h2 fun d S3 v H3 m3 x3 rl3 re3 r3 h3 => ?_
    have r3 : d = v := r3
    subst r3
    cases d with
    | false =>
      rw [if_neg Bool.false_ne_true]
      rw [if_neg Bool.false_ne_true] at h3
      exact h3 σ2 H3 m3 .refl rl3 re3
    | true =>
      rw [if_pos rfl]
      rw [if_pos rfl] at h3
      refine ⟨fun σ' H' => ∃ ρ' S' m', Nx (KX X κ) m S H m' S' H' ∧ Rl (KX X κ) m' S' H' ∧ RE (KX X κ) m' S' H' ρ' σ' ∧ PostS X κ W m' S' H' (whileL ba fb k ρ' S') Dn, fun σ' H' z => ⟨k, Nat.lt_succ_self k, z⟩, ?_⟩
      refine ib κ ρ2 S3 σ2 H3 m3 _ rl3 re3 ?_
      have x23 := x2.trans x3
      cases e2 : fb ρ2 S3 with
      | st => simp only [e2] at h3; exact h3.elim
      | nx ρ5 S5 =>
        simp only [e2] at h3
        intro σ5 H5 m5 x5 rl5 re5
        exact ⟨ρ5, S5, m5, x23.trans x5, rl5, re5, PostS.nx x5 h3⟩
      | ct ρ5 S5 =>
        simp only [e2] at h3
        intro σ5 H5 m5 x5 rl5 re5
        exact ⟨ρ5, S5, m5, x23.trans x5, rl5, re5, PostS.nx x5 h3⟩
      | bk ρ5 S5 => simp only [e2] at h3; exact h3
      | rt d5 S5 => simp only [e2] at h3; exact h3
      | ex x5 ρ5 S5 => simp only [e2] at h3; exact h3
end
section
variable {P : Wn}
/-- an invariant that comes down -/
theorem WS_while {c : BD} {body : SD} (I : Nat → Env → Sto → Prop) (hs : ∀ k ρ S, I k ρ S → WE (c ρ S) (fun b S1 => if b = true then WS (body ρ S1) ⟨fun ρ S => ∃ k', k' < k ∧ I k' ρ S, P.rt, P.nx, fun ρ S => ∃ k', k' < k ∧ I k' ρ S, P.ex⟩ else P.nx ρ S1) (fun _ _ => False)) :
    ∀ (n k : Nat) (ρ : Env) (S : Sto), k < n → I k ρ S → WS (whileL c body n ρ S) P
  | 0, k, ρ, S, h, _ => absurd h (Nat.not_lt_zero k)
  | n + 1, k, ρ, S, h, hi => by
    have q := hs k ρ S hi
    unfold whileL
    cases e : c ρ S with
    | st => rw [e] at q; exact q.elim
    | ex x S1 => rw [e] at q; exact q.elim
    | ok b S1 =>
      rw [e] at q
      cases b with
      | false => exact q
      | true =>
        have q : WS (body ρ S1) _ := q
        show WS (match body ρ S1 with
          | .nx ρ2 S2 => whileL c body n ρ2 S2
          | .ct ρ2 S2 => whileL c body n ρ2 S2
          | .bk ρ2 S2 => .nx ρ2 S2
          | o => o) P
        cases e2 : body ρ S1 with
        | st => rw [e2] at q; exact q.elim
        | nx ρ2 S2 =>
          rw [e2] at q
          obtain ⟨k', hk, hi'⟩ := q
          exact WS_while I hs n k' ρ2 S2 (by omega) hi'
        | ct ρ2 S2 =>
          rw [e2] at q
          obtain ⟨k', hk, hi'⟩ := q
          exact WS_while I hs n k' ρ2 S2 (by omega) hi'
        | bk ρ2 S2 => rw [e2] at q; exact q
        | rt d2 S2 => rw [e2] at q; exact q
        | ex x ρ2 S2 => rw [e2] at q; exact q
theorem sWhile_ap {n : Nat} {c : BD} {body : SD} {ρ : Env} {S : Sto} : sWhile n c body ρ S = whileL c body n ρ S := rfl
end
section
variable {P : Program} {w : World} {K : PySem.W.Frag} {mg : Str → Option Value} {base : Heap}
/-- no word of a def that may raise -/
theorem fnN_st {x : Str} {st : Stmt} {f : Addr} {fd : FuncData} {ps : List Str} {k n : Nat} (Fu : FunS K x st f fd) (gm : mg x = some (.ref f)) (bd : BindsAs x st ps) (hn : ps.length = n) : FnN P w K mg base k x n (fun _ _ => .st) := by
  refine ⟨f, fd, ps, hn, gm, Fu.kp, Fu.bindsN bd, ⟨fun vs H Q E h => h.1.trans hn.symm, fun A outer s H ar us vs Q E hr e0 hb r h => ?_⟩⟩
  obtain ⟨_, _, _, _, _, _, _, po⟩ := h
  exact po.elim
end
end DL

/-! DLza: a short text many times -/
namespace DL
open PySem PySem.Spec PyProof.Rows L2
theorem op_mul_t {X : Cx} : OpR X (binaryOp .Mult) (fun x y H Q => ∃ (a : Str) (n : Int), x = .str a ∧ y = .int n ∧ a.length ≤ 16 ∧ -1048576 ≤ n ∧ n ≤ 1048576 ∧ Q (.str (Txt.mul a n)) H) := by
  intro pins s σ H x y v u Q I rx ry h
  obtain ⟨a, n, rfl, rfl, h1, h2, h3, q⟩ := h
  obtain ⟨t, rfl⟩ := rx
  obtain ⟨t', rfl⟩ := ry
  exact SB.mul (mulOk_of 16 1048576 h1 h3 (by omega) (by decide) (by decide)) fun t' k => ⟨.str (Txt.mul a n), H, I.tok _, ⟨_, rfl⟩, q⟩
def gMulT : D → D → Sto → Rs D := fun x y S => match x, y with
  | .p (.str a), .p (.int n) => if a.length ≤ 16 ∧ -1048576 ≤ n ∧ n ≤ 1048576 then .ok (.str (Txt.mul a n)) S else .st
  | _, _ => .st
theorem od_mulT {X : Cx} {W : WX} : OpD X W (binaryOp .Mult) gMulT := by
  refine ⟨_, op_mul_t, fun κ x y vx vy m S H σ Q rl rx ry h => ?_⟩
  unfold gMulT at h
  split at h
  · rename_i a n
    split at h
    · rename_i e
      exact ⟨a, n, rx.str, ry.int, e.1, e.2.1, e.2.2, h.ok' .refl rl RD.str_⟩
    · exact h.elim
  · exact h.elim
theorem foldl_rep (c : Nat) : ∀ (k : Nat) (acc : Array Nat), (List.replicate k #[c]).foldl (· ++ ·) acc = acc ++ (List.replicate k c).toArray
  | 0, acc => by simp
  | k + 1, acc => by
    rw [List.replicate_succ, List.foldl_cons, foldl_rep c k, List.replicate_succ, Array.append_assoc]
    congr 1
    apply Array.ext'
    simp
theorem mul_one (c n : Nat) : Txt.mul (SX.S [c]) (n : Int) = SX.S (List.replicate n c) := by
  unfold Txt.mul
  by_cases h1 : (n : Int) < 1
  · rw [if_pos h1]
    have : n = 0 := by omega
    subst this
    rfl
  rw [if_neg h1]
  have hl : (SX.S [c]).length = 1 := rfl
  by_cases h2 : n = 1
  · subst h2
    rfl
  rw [if_neg (by rw [hl]; simp; omega)]
  show (⟨(List.replicate (n : Int).toNat #[c]).foldl (· ++ ·) #[]⟩ : Str) = ⟨(List.replicate n c).toArray⟩
  rw [foldl_rep, Int.toNat_natCast]
  simp
theorem gMulT_one {c n : Nat} {S : Sto} (h : n ≤ 1048576) : gMulT (.p (.str (SX.S [c]))) (.p (.int (n : Int))) S = .ok (.str (SX.S (List.replicate n c))) S := by
  have e : gMulT (.p (.str (SX.S [c]))) (.p (.int (n : Int))) S = if (SX.S [c]).length ≤ 16 ∧ -1048576 ≤ (n : Int) ∧ (n : Int) ≤ 1048576 then .ok (.str (Txt.mul (SX.S [c]) (n : Int))) S else .st := rfl
  rw [e, if_pos ⟨by show 1 ≤ 16; decide, by omega, by omega⟩, mul_one]
end DL

namespace My
open PySem PySem.Spec PyProof.Rows L2 DL
theorem units65 {k : Nat} {A : Around} (r : Room k A) : A.units + 65 < cLine := by have := r.un; omega
def topS (i : Nat) : Stmt := PySem.Challenge.pw_surelyread_k09_machines_exact.main.body.getD i (.Pass ⟨0, 0, 0, 0⟩)
def subS (st : Stmt) (k : Nat) : Stmt := match st with
  | .ClassDef (body := b) .. => b.getD k (.Pass ⟨0, 0, 0, 0⟩)
  | _ => .Pass ⟨0, 0, 0, 0⟩
abbrev s_is_strip : Stmt := topS 1
abbrev NN_is_strip : List Str := ["part"]
theorem sc_is_strip : FnScope NN_is_strip ["part"] (defScope s_is_strip) := ⟨rfl, rfl, rfl, by decide +kernel, rfl, by decide +kernel, by decide +kernel⟩
/-- is_strip -/
noncomputable def B_is_strip : SD := sRetR (eBin (gInA false) (eBin gIx (eVar 0) (eC (.int 0))) (eTup (aCons (eC (.str "across")) (aCons (eC (.str "down")) (aNil)))))
theorem d_is_strip {P : Program} {w : World} {K : PySem.W.Frag} {mg : Str → Option Value} {base : Heap} {j : Nat} {cdv : Value} {A : Around} {outer : List PySem.Env} {s : Shared} {H : Hp} {E : XK} {f : Addr} (hr : Room j (A.deeper (envOfC "is_strip" (defScope s_is_strip) s.heap.objs.size f cdv))) :
    DSs (cxOf CX0 P w K mg base NN_is_strip "is_strip" (defScope s_is_strip) f cdv A outer s H E).nox (fun _ _ _ _ => False) (defBody s_is_strip) (B_is_strip) := by
  have hu := hr.units
  have hu1 := units65 hr
  exact dss_one (ds_retR (de_cmp (od_inA hu1) (de_ix (dv 0) (de_int) (fun _ _ => rfl)) (de_tup (da_cons (de_str) (da_cons (de_str) (da_nil)))) (by rfl)))
abbrev s_list_places : Stmt := topS 2
abbrev NN_list_places : List Str := ["expression", "found", "item"]
theorem sc_list_places : FnScope NN_list_places ["expression"] (defScope s_list_places) := ⟨rfl, rfl, rfl, by decide +kernel, rfl, by decide +kernel, by decide +kernel⟩
/-- list_places -/
noncomputable def B_list_places (g_list_places : FD) : SD := sSeq (sIf (asB (eBin (gEq false) (eBin gIx (eVar 0) (eC (.int 0))) (eC (.str "place")))) (sRetR (eLst (aCons (eVar 0) (aNil)))) (sNil)) (sSeq (sIf (asB (eBin (gInA false) (eBin gIx (eVar 0) (eC (.int 0))) (eTup (aCons (eC (.str "sequence")) (aCons (eC (.str "choice")) (aNil)))))) (sSeq (sSet 1 (eLstO (aNil))) (sSeq (sFor (iTpl (eBin gIx (eVar 0) (eC (.int 1)))) (gNm 2) (sExpr (eMth gExt (eVar 1) (aCons (eCall 1 g_list_places (aCons (eVar 2) (aNil))) (aNil))))) (sRetR (eVar 1)))) (sNil)) (sRetR (eCall 1 g_list_places (aCons (eBin gIx (eVar 0) (eC (.int 1))) (aNil)))))
theorem d_list_places {P : Program} {w : World} {K : PySem.W.Frag} {mg : Str → Option Value} {base : Heap} {j : Nat} {g_list_places : FD} {k_list_places : Nat} (F_list_places : FnD P w K mg base k_list_places "list_places" 1 g_list_places) (hk_list_places : k_list_places ≤ j) {cdv : Value} {A : Around} {outer : List PySem.Env} {s : Shared} {H : Hp} {E : XK} {f : Addr} (hr : Room j (A.deeper (envOfC "list_places" (defScope s_list_places) s.heap.objs.size f cdv))) :
    DSs (cxOf CX0 P w K mg base NN_list_places "list_places" (defScope s_list_places) f cdv A outer s H E).nox (fun _ _ _ _ => False) (defBody s_list_places) (B_list_places g_list_places) := by
  have hu := hr.units
  have hu1 := units65 hr
  exact dss_cons (ds_if (dt_cmp (od_eq hu) (de_ix (dv 0) (de_int) (fun _ _ => rfl)) (de_str) (nomark _)) (dss_one (ds_retR (de_lst (da_cons (dv 0) (da_nil))))) (dss_nil)) (dss_cons (ds_if (dt_cmp (od_inA hu1) (de_ix (dv 0) (de_int) (fun _ _ => rfl)) (de_tup (da_cons (de_str) (da_cons (de_str) (da_nil)))) (by rfl)) (dss_cons (dset 1 sc_list_places.nd (de_lstO (da_nil))) (dss_cons (ds_for PassesOwn.never rfl (di_tup (de_ix (dv 0) (de_int) (fun _ _ => rfl))) (dgn 2 sc_list_places.nd) (dss_one (ds_expr (de_mth md_extend PySem.F.slot_list_extend PySem.F.type_list_extend (dv 1) (da_cons (de_call F_list_places hr hk_list_places rfl (da_cons (dv 2) (da_nil))) (da_nil)))))) (dss_one (ds_retR (dv 1))))) (dss_nil)) (dss_one (ds_retR (de_call F_list_places hr hk_list_places rfl (da_cons (de_ix (dv 0) (de_int) (fun _ _ => rfl)) (da_nil))))))
abbrev s_outline : Stmt := topS 3
abbrev NN_outline : List Str := ["expression", "number", "empty", "first", "last", "pairs"]
theorem sc_outline : FnScope NN_outline ["expression", "number"] (defScope s_outline) := ⟨rfl, rfl, rfl, by decide +kernel, rfl, by decide +kernel, by decide +kernel⟩
/-- outline -/
noncomputable def B_outline (g_outline : FD) (g_outline_of_sequence : FD) (g_outline_of_choice : FD) (g_all_pairs : FD) : SD := sSeq (sIf (asB (eBin (gEq false) (eBin gIx (eVar 0) (eC (.int 0))) (eC (.str "place")))) (sRetR (eTup (aCons (eC (.bool false)) (aCons (eLst (aCons (eVar 1) (aNil))) (aCons (eLst (aCons (eVar 1) (aNil))) (aCons (eLst (aNil)) (aNil))))))) (sNil)) (sSeq (sIf (asB (eBin (gEq false) (eBin gIx (eVar 0) (eC (.int 0))) (eC (.str "sequence")))) (sRetR (eCall 2 g_outline_of_sequence (aCons (eBin gIx (eVar 0) (eC (.int 1))) (aCons (eVar 1) (aNil))))) (sNil)) (sSeq (sIf (asB (eBin (gEq false) (eBin gIx (eVar 0) (eC (.int 0))) (eC (.str "choice")))) (sRetR (eCall 2 g_outline_of_choice (aCons (eBin gIx (eVar 0) (eC (.int 1))) (aCons (eVar 1) (aNil))))) (sNil)) (sSeq (sAsg (eCall 2 g_outline (aCons (eBin gIx (eVar 0) (eC (.int 1))) (aCons (eVar 1) (aNil)))) (gTupD 4 (gsCons (gNm 2) (gsCons (gNm 3) (gsCons (gNm 4) (gsCons (gNm 5) (gsNil))))))) (sSeq (sIf (asB (eBin (gEq false) (eBin gIx (eVar 0) (eC (.int 0))) (eC (.str "maybe")))) (sRetR (eTup (aCons (eC (.bool true)) (aCons (eVar 3) (aCons (eVar 4) (aCons (eVar 5) (aNil))))))) (sNil)) (sRetR (eTup (aCons (eOr (eVar 2) (eBin (gEq false) (eBin gIx (eVar 0) (eC (.int 0))) (eC (.str "any")))) (aCons (eVar 3) (aCons (eVar 4) (aCons (eBin gAdd (eVar 5) (eCall 2 g_all_pairs (aCons (eVar 4) (aCons (eVar 3) (aNil))))) (aNil)))))))))))
theorem d_outline {P : Program} {w : World} {K : PySem.W.Frag} {mg : Str → Option Value} {base : Heap} {j : Nat} {g_outline : FD} {k_outline : Nat} (F_outline : FnD P w K mg base k_outline "outline" 2 g_outline) (hk_outline : k_outline ≤ j) {g_outline_of_sequence : FD} {k_outline_of_sequence : Nat} (F_outline_of_sequence : FnD P w K mg base k_outline_of_sequence "outline_of_sequence" 2 g_outline_of_sequence) (hk_outline_of_sequence : k_outline_of_sequence ≤ j) {g_outline_of_choice : FD} {k_outline_of_choice : Nat} (F_outline_of_choice : FnD P w K mg base k_outline_of_choice "outline_of_choice" 2 g_outline_of_choice) (hk_outline_of_choice : k_outline_of_choice ≤ j) {g_all_pairs : FD} {k_all_pairs : Nat} (F_all_pairs : FnD P w K mg base k_all_pairs "all_pairs" 2 g_all_pairs) (hk_all_pairs : k_all_pairs ≤ j) {cdv : Value} {A : Around} {outer : List PySem.Env} {s : Shared} {H : Hp} {E : XK} {f : Addr} (hr : Room j (A.deeper (envOfC "outline" (defScope s_outline) s.heap.objs.size f cdv))) :
    DSs (cxOf CX0 P w K mg base NN_outline "outline" (defScope s_outline) f cdv A outer s H E).nox (fun _ _ _ _ => False) (defBody s_outline) (B_outline g_outline g_outline_of_sequence g_outline_of_choice g_all_pairs) := by
  have hu := hr.units
  have hu1 := units65 hr
  exact dss_cons (ds_if (dt_cmp (od_eq hu) (de_ix (dv 0) (de_int) (fun _ _ => rfl)) (de_str) (nomark _)) (dss_one (ds_retR (de_tup (da_cons (de_bl) (da_cons (de_lst (da_cons (dv 1) (da_nil))) (da_cons (de_lst (da_cons (dv 1) (da_nil))) (da_cons (de_lst (da_nil)) (da_nil)))))))) (dss_nil)) (dss_cons (ds_if (dt_cmp (od_eq hu) (de_ix (dv 0) (de_int) (fun _ _ => rfl)) (de_str) (nomark _)) (dss_one (ds_retR (de_call F_outline_of_sequence hr hk_outline_of_sequence rfl (da_cons (de_ix (dv 0) (de_int) (fun _ _ => rfl)) (da_cons (dv 1) (da_nil)))))) (dss_nil)) (dss_cons (ds_if (dt_cmp (od_eq hu) (de_ix (dv 0) (de_int) (fun _ _ => rfl)) (de_str) (nomark _)) (dss_one (ds_retR (de_call F_outline_of_choice hr hk_outline_of_choice rfl (da_cons (de_ix (dv 0) (de_int) (fun _ _ => rfl)) (da_cons (dv 1) (da_nil)))))) (dss_nil)) (dss_cons (ds_asg (de_call F_outline hr hk_outline rfl (da_cons (de_ix (dv 0) (de_int) (fun _ _ => rfl)) (da_cons (dv 1) (da_nil)))) (dg_tup rfl (dgs_cons (dgn 2 sc_outline.nd) (dgs_cons (dgn 3 sc_outline.nd) (dgs_cons (dgn 4 sc_outline.nd) (dgs_cons (dgn 5 sc_outline.nd) (dgs_nil))))))) (dss_cons (ds_if (dt_cmp (od_eq hu) (de_ix (dv 0) (de_int) (fun _ _ => rfl)) (de_str) (nomark _)) (dss_one (ds_retR (de_tup (da_cons (de_bl) (da_cons (dv 3) (da_cons (dv 4) (da_cons (dv 5) (da_nil)))))))) (dss_nil)) (dss_one (ds_retR (de_tup (da_cons (de_or (dv 2) (de_one (de_cmp (od_eq hu) (de_ix (dv 0) (de_int) (fun _ _ => rfl)) (de_str) (nomark _)))) (da_cons (dv 3) (da_cons (dv 4) (da_cons (de_bin od_add (dv 5) (de_call F_all_pairs hr hk_all_pairs rfl (da_cons (dv 4) (da_cons (dv 3) (da_nil))))) (da_nil))))))))))))
abbrev s_all_pairs : Stmt := topS 4
abbrev NN_all_pairs : List Str := ["ahead", "behind", "one", "other"]
theorem sc_all_pairs : FnScope NN_all_pairs ["ahead", "behind"] (defScope s_all_pairs) := ⟨rfl, rfl, rfl, by decide +kernel, rfl, by decide +kernel, by decide +kernel⟩
/-- all_pairs -/
noncomputable def B_all_pairs : SD := sRetR (eLc2 (iLst (eVar 0)) (gNm 2) (bYes) (iFzL (eVar 1)) (gNm 3) (bYes) (eTup (aCons (eVar 2) (aCons (eVar 3) (aNil)))) [2, 3] [3])
theorem d_all_pairs {P : Program} {w : World} {K : PySem.W.Frag} {mg : Str → Option Value} {base : Heap} {j : Nat} {cdv : Value} {A : Around} {outer : List PySem.Env} {s : Shared} {H : Hp} {E : XK} {f : Addr} (hr : Room j (A.deeper (envOfC "all_pairs" (defScope s_all_pairs) s.heap.objs.size f cdv))) :
    DSs (cxOf CX0 P w K mg base NN_all_pairs "all_pairs" (defScope s_all_pairs) f cdv A outer s H E).nox (fun _ _ _ _ => False) (defBody s_all_pairs) (B_all_pairs) := by
  have hu := hr.units
  have hu1 := units65 hr
  exact dss_one (ds_retR (de_lc2 (own := [("one", 2), ("other", 3)]) (vs1 := [3]) rfl sc_all_pairs.nd (di_lst (dv 0)) (blkOk_by (N := NN_all_pairs) (sc := defScope s_all_pairs) (by decide +kernel)) (by decide) (fun _ _ _ _ _ => dgw 2 sc_all_pairs.nd (by decide)) (fun _ _ _ _ _ => dts_nil) (fun _ _ _ _ _ => dif_lst (dv 1)) (fun _ _ _ _ _ => dgw 3 sc_all_pairs.nd (by decide)) (fun _ _ _ _ _ => dts_nil) (fun _ _ _ _ _ => de_tup (da_cons (dv 2) (da_cons (dv 3) (da_nil))))))
abbrev s_outline_of_sequence : Stmt := topS 5
abbrev NN_outline_of_sequence : List Str := ["items", "number", "item", "empty", "first", "last", "pairs", "item_empty", "item_first", "item_last", "item_pairs"]
theorem sc_outline_of_sequence : FnScope NN_outline_of_sequence ["items", "number"] (defScope s_outline_of_sequence) := ⟨rfl, rfl, rfl, by decide +kernel, rfl, by decide +kernel, by decide +kernel⟩
/-- outline_of_sequence -/
noncomputable def B_outline_of_sequence (g_outline : FD) (g_all_pairs : FD) (g_list_places : FD) : SD := sSeq (sAsg (eTup (aCons (eC (.bool true)) (aCons (eLst (aNil)) (aCons (eLst (aNil)) (aCons (eLst (aNil)) (aNil)))))) (gTupD 4 (gsCons (gNm 3) (gsCons (gNm 4) (gsCons (gNm 5) (gsCons (gNm 6) (gsNil))))))) (sSeq (sFor (iTpl (eVar 0)) (gNm 2) (sSeq (sAsg (eCall 2 g_outline (aCons (eVar 2) (aCons (eVar 1) (aNil)))) (gTupD 4 (gsCons (gNm 7) (gsCons (gNm 8) (gsCons (gNm 9) (gsCons (gNm 10) (gsNil))))))) (sSeq (sSet 6 (eBin gAdd (eBin gAdd (eVar 6) (eVar 10)) (eCall 2 g_all_pairs (aCons (eVar 5) (aCons (eVar 8) (aNil)))))) (sSeq (sIf (bTru (eVar 3)) (sSet 4 (eBin gAdd (eVar 4) (eVar 8))) (sNil)) (sSeq (sSet 5 (eIf (bTru (eVar 7)) (eBin gAdd (eVar 5) (eVar 9)) (eVar 9))) (sSeq (sSet 3 (eAnd (eVar 3) (eVar 7))) (sAug 1 (eB gLen (aCons (eCall 1 g_list_places (aCons (eVar 2) (aNil))) (aNil))) gAddI))))))) (sRetR (eTup (aCons (eVar 3) (aCons (eVar 4) (aCons (eVar 5) (aCons (eVar 6) (aNil))))))))
theorem d_outline_of_sequence {P : Program} {w : World} {K : PySem.W.Frag} {mg : Str → Option Value} {base : Heap} {j : Nat} {g_outline : FD} {k_outline : Nat} (F_outline : FnD P w K mg base k_outline "outline" 2 g_outline) (hk_outline : k_outline ≤ j) {g_all_pairs : FD} {k_all_pairs : Nat} (F_all_pairs : FnD P w K mg base k_all_pairs "all_pairs" 2 g_all_pairs) (hk_all_pairs : k_all_pairs ≤ j) {g_list_places : FD} {k_list_places : Nat} (F_list_places : FnD P w K mg base k_list_places "list_places" 1 g_list_places) (hk_list_places : k_list_places ≤ j) (m_len : mg "len" = none) {cdv : Value} {A : Around} {outer : List PySem.Env} {s : Shared} {H : Hp} {E : XK} {f : Addr} (hr : Room j (A.deeper (envOfC "outline_of_sequence" (defScope s_outline_of_sequence) s.heap.objs.size f cdv))) :
    DSs (cxOf CX0 P w K mg base NN_outline_of_sequence "outline_of_sequence" (defScope s_outline_of_sequence) f cdv A outer s H E).nox (fun _ _ _ _ => False) (defBody s_outline_of_sequence) (B_outline_of_sequence g_outline g_all_pairs g_list_places) := by
  have hu := hr.units
  have hu1 := units65 hr
  exact dss_cons (ds_asg (de_tup (da_cons (de_bl) (da_cons (de_lst (da_nil)) (da_cons (de_lst (da_nil)) (da_cons (de_lst (da_nil)) (da_nil)))))) (dg_tup rfl (dgs_cons (dgn 3 sc_outline_of_sequence.nd) (dgs_cons (dgn 4 sc_outline_of_sequence.nd) (dgs_cons (dgn 5 sc_outline_of_sequence.nd) (dgs_cons (dgn 6 sc_outline_of_sequence.nd) (dgs_nil))))))) (dss_cons (ds_for PassesOwn.never rfl (di_tup (dv 0)) (dgn 2 sc_outline_of_sequence.nd) (dss_cons (ds_asg (de_call F_outline hr hk_outline rfl (da_cons (dv 2) (da_cons (dv 1) (da_nil)))) (dg_tup rfl (dgs_cons (dgn 7 sc_outline_of_sequence.nd) (dgs_cons (dgn 8 sc_outline_of_sequence.nd) (dgs_cons (dgn 9 sc_outline_of_sequence.nd) (dgs_cons (dgn 10 sc_outline_of_sequence.nd) (dgs_nil))))))) (dss_cons (dset 6 sc_outline_of_sequence.nd (de_bin od_add (de_bin od_add (dv 6) (dv 10)) (de_call F_all_pairs hr hk_all_pairs rfl (da_cons (dv 5) (da_cons (dv 8) (da_nil)))))) (dss_cons (ds_if (dt_truth (dv 3)) (dss_one (dset 4 sc_outline_of_sequence.nd (de_bin od_add (dv 4) (dv 8)))) (dss_nil)) (dss_cons (dset 5 sc_outline_of_sequence.nd (de_if (dt_truth (dv 7)) (de_bin od_add (dv 5) (dv 9)) (dv 9))) (dss_cons (dset 3 sc_outline_of_sequence.nd (de_and (dv 3) (de_one (dv 7)))) (dss_one (daug 1 sc_outline_of_sequence.nd (de_callB cd_len rfl m_len boot_len (da_cons (de_call F_list_places hr hk_list_places rfl (da_cons (dv 2) (da_nil))) (da_nil))) oi_add)))))))) (dss_one (ds_retR (de_tup (da_cons (dv 3) (da_cons (dv 4) (da_cons (dv 5) (da_cons (dv 6) (da_nil)))))))))
abbrev s_outline_of_choice : Stmt := topS 6
abbrev NN_outline_of_choice : List Str := ["items", "number", "item", "empty", "first", "last", "pairs", "item_empty", "item_first", "item_last", "item_pairs"]
theorem sc_outline_of_choice : FnScope NN_outline_of_choice ["items", "number"] (defScope s_outline_of_choice) := ⟨rfl, rfl, rfl, by decide +kernel, rfl, by decide +kernel, by decide +kernel⟩
/-- outline_of_choice -/
noncomputable def B_outline_of_choice (g_outline : FD) (g_list_places : FD) : SD := sSeq (sAsg (eTup (aCons (eC (.bool false)) (aCons (eLst (aNil)) (aCons (eLst (aNil)) (aCons (eLst (aNil)) (aNil)))))) (gTupD 4 (gsCons (gNm 3) (gsCons (gNm 4) (gsCons (gNm 5) (gsCons (gNm 6) (gsNil))))))) (sSeq (sFor (iTpl (eVar 0)) (gNm 2) (sSeq (sAsg (eCall 2 g_outline (aCons (eVar 2) (aCons (eVar 1) (aNil)))) (gTupD 4 (gsCons (gNm 7) (gsCons (gNm 8) (gsCons (gNm 9) (gsCons (gNm 10) (gsNil))))))) (sSeq (sSet 3 (eOr (eVar 3) (eVar 7))) (sSeq (sSet 4 (eBin gAdd (eVar 4) (eVar 8))) (sSeq (sSet 5 (eBin gAdd (eVar 5) (eVar 9))) (sSeq (sSet 6 (eBin gAdd (eVar 6) (eVar 10))) (sAug 1 (eB gLen (aCons (eCall 1 g_list_places (aCons (eVar 2) (aNil))) (aNil))) gAddI))))))) (sRetR (eTup (aCons (eVar 3) (aCons (eVar 4) (aCons (eVar 5) (aCons (eVar 6) (aNil))))))))
theorem d_outline_of_choice {P : Program} {w : World} {K : PySem.W.Frag} {mg : Str → Option Value} {base : Heap} {j : Nat} {g_outline : FD} {k_outline : Nat} (F_outline : FnD P w K mg base k_outline "outline" 2 g_outline) (hk_outline : k_outline ≤ j) {g_list_places : FD} {k_list_places : Nat} (F_list_places : FnD P w K mg base k_list_places "list_places" 1 g_list_places) (hk_list_places : k_list_places ≤ j) (m_len : mg "len" = none) {cdv : Value} {A : Around} {outer : List PySem.Env} {s : Shared} {H : Hp} {E : XK} {f : Addr} (hr : Room j (A.deeper (envOfC "outline_of_choice" (defScope s_outline_of_choice) s.heap.objs.size f cdv))) :
    DSs (cxOf CX0 P w K mg base NN_outline_of_choice "outline_of_choice" (defScope s_outline_of_choice) f cdv A outer s H E).nox (fun _ _ _ _ => False) (defBody s_outline_of_choice) (B_outline_of_choice g_outline g_list_places) := by
  have hu := hr.units
  have hu1 := units65 hr
  exact dss_cons (ds_asg (de_tup (da_cons (de_bl) (da_cons (de_lst (da_nil)) (da_cons (de_lst (da_nil)) (da_cons (de_lst (da_nil)) (da_nil)))))) (dg_tup rfl (dgs_cons (dgn 3 sc_outline_of_choice.nd) (dgs_cons (dgn 4 sc_outline_of_choice.nd) (dgs_cons (dgn 5 sc_outline_of_choice.nd) (dgs_cons (dgn 6 sc_outline_of_choice.nd) (dgs_nil))))))) (dss_cons (ds_for PassesOwn.never rfl (di_tup (dv 0)) (dgn 2 sc_outline_of_choice.nd) (dss_cons (ds_asg (de_call F_outline hr hk_outline rfl (da_cons (dv 2) (da_cons (dv 1) (da_nil)))) (dg_tup rfl (dgs_cons (dgn 7 sc_outline_of_choice.nd) (dgs_cons (dgn 8 sc_outline_of_choice.nd) (dgs_cons (dgn 9 sc_outline_of_choice.nd) (dgs_cons (dgn 10 sc_outline_of_choice.nd) (dgs_nil))))))) (dss_cons (dset 3 sc_outline_of_choice.nd (de_or (dv 3) (de_one (dv 7)))) (dss_cons (dset 4 sc_outline_of_choice.nd (de_bin od_add (dv 4) (dv 8))) (dss_cons (dset 5 sc_outline_of_choice.nd (de_bin od_add (dv 5) (dv 9))) (dss_cons (dset 6 sc_outline_of_choice.nd (de_bin od_add (dv 6) (dv 10))) (dss_one (daug 1 sc_outline_of_choice.nd (de_callB cd_len rfl m_len boot_len (da_cons (de_call F_list_places hr hk_list_places rfl (da_cons (dv 2) (da_nil))) (da_nil))) oi_add)))))))) (dss_one (ds_retR (de_tup (da_cons (dv 3) (da_cons (dv 4) (da_cons (dv 5) (da_cons (dv 6) (da_nil)))))))))
abbrev s_machine : Stmt := topS 7
abbrev NN_machine : List Str := ["choice", "places", "behaviours", "number", "states", "behaviour", "moves", "origin", "empty", "first", "last", "pairs", "behind", "target", "_", "part", "least", "most", "cost", "state", "one", "other"]
theorem sc_machine : FnScope NN_machine ["choice"] (defScope s_machine) := ⟨rfl, rfl, rfl, by decide +kernel, rfl, by decide +kernel, by decide +kernel⟩
/-- machine -/
noncomputable def B_machine (g_outline : FD) (g_list_places : FD) : SD := sSeq (sAsg (eCall 2 g_outline (aCons (eVar 0) (aCons (eC (.int 1)) (aNil)))) (gTupD 4 (gsCons (gNm 8) (gsCons (gNm 9) (gsCons (gNm 10) (gsCons (gNm 11) (gsNil))))))) (sSeq (sSet 1 (eCall 1 g_list_places (aCons (eVar 0) (aNil)))) (sSeq (sSet 2 (eLstO (aCons (eTup (aCons (eVar 8) (aCons (eB gToTup (aCons (eVar 9) (aNil))) (aNil)))) (aNil)))) (sSeq (sFor (iRgB (aCons (eC (.int 1)) (aCons (eBin gAdd (eB gLen (aCons (eVar 1) (aNil))) (eC (.int 1))) (aNil)))) (gNm 3) (sSeq (sSet 12 (eSrtI (iLst (eVar 11)) ((gTupD 2 (gNms [20, 21]))) (asB (eBin (gEq false) (eVar 20) (eVar 3))) (eVar 21) [20, 21])) (sExpr (eMth gApp (eVar 2) (aCons (eTup (aCons (eBin (gInA false) (eVar 3) (eVar 10)) (aCons (eB gToTup (aCons (eVar 12) (aNil))) (aNil)))) (aNil)))))) (sSeq (sSet 4 (eLstO (aNil))) (sSeq (sFor (iLst (eVar 2)) (gNm 5) (sIf (asB (eBin (gInA true) (eVar 5) (eVar 4))) (sExpr (eMth gApp (eVar 4) (aCons (eVar 5) (aNil)))) (sNil))) (sSeq (sSet 6 (eLstO (aNil))) (sSeq (sFor (iRgA (aCons (eB gLen (aCons (eVar 4) (aNil))) (aNil))) (gNm 7) (sFor (iTpl (eBin gIx (eBin gIx (eVar 4) (eVar 7)) (eC (.int 1)))) (gNm 3) (sSeq (sAsg (eBin gIx (eVar 1) (eBin gSub (eVar 3) (eC (.int 1)))) (gTupD 5 (gsCons (gNm 14) (gsCons (gNm 15) (gsCons (gNm 16) (gsCons (gNm 17) (gsCons (gNm 18) (gsNil)))))))) (sSeq (sSet 13 (eMth gIdx (eVar 4) (aCons (eBin gIx (eVar 2) (eVar 3)) (aNil)))) (sExpr (eMth gApp (eVar 6) (aCons (eTup (aCons (eVar 7) (aCons (eVar 13) (aCons (eVar 15) (aCons (eVar 16) (aCons (eVar 17) (aCons (eVar 18) (aNil)))))))) (aNil)))))))) (sRetR (eTup (aCons (eB gToTup (aCons (eLc (iLst (eVar 4)) (gNm 19) (bYes) (eBin gIx (eVar 19) (eC (.int 0))) [19]) (aNil))) (aCons (eB gToTup (aCons (eVar 6) (aNil))) (aNil))))))))))))
theorem d_machine {P : Program} {w : World} {K : PySem.W.Frag} {mg : Str → Option Value} {base : Heap} {j : Nat} {g_outline : FD} {k_outline : Nat} (F_outline : FnD P w K mg base k_outline "outline" 2 g_outline) (hk_outline : k_outline ≤ j) {g_list_places : FD} {k_list_places : Nat} (F_list_places : FnD P w K mg base k_list_places "list_places" 1 g_list_places) (hk_list_places : k_list_places ≤ j) (m_len : mg "len" = none) (m_range : mg "range" = none) (m_sorted : mg "sorted" = none) (m_tuple : mg "tuple" = none) {cdv : Value} {A : Around} {outer : List PySem.Env} {s : Shared} {H : Hp} {E : XK} {f : Addr} (hr : Room j (A.deeper (envOfC "machine" (defScope s_machine) s.heap.objs.size f cdv))) :
    DSs (cxOf CX0 P w K mg base NN_machine "machine" (defScope s_machine) f cdv A outer s H E).nox (fun _ _ _ _ => False) (defBody s_machine) (B_machine g_outline g_list_places) := by
  have hu := hr.units
  have hu1 := units65 hr
  exact dss_cons (ds_asg (de_call F_outline hr hk_outline rfl (da_cons (dv 0) (da_cons (de_int) (da_nil)))) (dg_tup rfl (dgs_cons (dgn 8 sc_machine.nd) (dgs_cons (dgn 9 sc_machine.nd) (dgs_cons (dgn 10 sc_machine.nd) (dgs_cons (dgn 11 sc_machine.nd) (dgs_nil))))))) (dss_cons (dset 1 sc_machine.nd (de_call F_list_places hr hk_list_places rfl (da_cons (dv 0) (da_nil)))) (dss_cons (dset 2 sc_machine.nd (de_lstO (da_cons (de_tup (da_cons (dv 8) (da_cons (de_callT cd_tuple rfl m_tuple (by decide +kernel) (da_cons (dv 9) (da_nil))) (da_nil)))) (da_nil)))) (dss_cons (ds_for PassesOwn.never rfl (di_range2 rfl m_range (da_cons (de_int) (da_cons (de_bin od_add (de_callB cd_len rfl m_len boot_len (da_cons (dv 1) (da_nil))) (de_int)) (da_nil)))) (dgn 3 sc_machine.nd) (dss_cons (dset 12 sc_machine.nd (de_srtI (own := [("one", 20), ("other", 21)]) rfl sc_machine.nd rfl m_sorted (di_lst (dv 11)) (blkOk_by (N := NN_machine) (sc := defScope s_machine) (by decide +kernel)) (fun _ _ _ _ _ => dgw_tup (is := [20, 21]) rfl (pgs_cons (pgn 20 sc_machine.nd) (pgs_cons (pgn 21 sc_machine.nd) (pgs_nil))) (by decide)) (fun _ _ _ _ _ => dts_one (dt_cmp (od_eq hu) (dv 20) (dv 3) (nomark _))) (fun _ _ _ _ _ => dv 21))) (dss_one (ds_expr (de_mth md_append PySem.F.slot_list_append PySem.F.type_list_append (dv 2) (da_cons (de_tup (da_cons (de_cmp (od_inA hu1) (dv 3) (dv 10) (by rfl)) (da_cons (de_callT cd_tuple rfl m_tuple (by decide +kernel) (da_cons (dv 12) (da_nil))) (da_nil)))) (da_nil))))))) (dss_cons (dset 4 sc_machine.nd (de_lstO (da_nil))) (dss_cons (ds_for PassesOwn.never rfl (di_lst (dv 2)) (dgn 5 sc_machine.nd) (dss_one (ds_if (dt_cmp (od_notinA hu1) (dv 5) (dv 4) (by rfl)) (dss_one (ds_expr (de_mth md_append PySem.F.slot_list_append PySem.F.type_list_append (dv 4) (da_cons (dv 5) (da_nil))))) (dss_nil)))) (dss_cons (dset 6 sc_machine.nd (de_lstO (da_nil))) (dss_cons (ds_for PassesOwn.never rfl (di_range1 rfl m_range (da_cons (de_callB cd_len rfl m_len boot_len (da_cons (dv 4) (da_nil))) (da_nil))) (dgn 7 sc_machine.nd) (dss_one (ds_for PassesOwn.never rfl (di_tup (de_ix (de_ix (dv 4) (dv 7) (fun _ _ => rfl)) (de_int) (fun _ _ => rfl))) (dgn 3 sc_machine.nd) (dss_cons (ds_asg (de_ix (dv 1) (de_bin od_sub (dv 3) (de_int)) (fun _ _ => rfl)) (dg_tup rfl (dgs_cons (dgn 14 sc_machine.nd) (dgs_cons (dgn 15 sc_machine.nd) (dgs_cons (dgn 16 sc_machine.nd) (dgs_cons (dgn 17 sc_machine.nd) (dgs_cons (dgn 18 sc_machine.nd) (dgs_nil)))))))) (dss_cons (dset 13 sc_machine.nd (de_mth (md_index hu1) PySem.F.slot_list_index PySem.F.type_list_index (dv 4) (da_cons (de_ix (dv 2) (dv 3) (fun _ _ => rfl)) (da_nil)))) (dss_one (ds_expr (de_mth md_append PySem.F.slot_list_append PySem.F.type_list_append (dv 6) (da_cons (de_tup (da_cons (dv 7) (da_cons (dv 13) (da_cons (dv 15) (da_cons (dv 16) (da_cons (dv 17) (da_cons (dv 18) (da_nil)))))))) (da_nil)))))))))) (dss_one (ds_retR (de_tup (da_cons (de_callT cd_tuple rfl m_tuple (by decide +kernel) (da_cons (de_lc (own := [("state", 19)]) rfl sc_machine.nd (di_lst (dv 4)) (blkOk_by (N := NN_machine) (sc := defScope s_machine) (by decide +kernel)) (fun _ _ _ _ _ => dgw 19 sc_machine.nd (by decide)) (fun _ _ _ _ _ => dts_nil) (fun _ _ _ _ _ => de_ix (dv 19) (de_int) (fun _ _ => rfl))) (da_nil))) (da_cons (de_callT cd_tuple rfl m_tuple (by decide +kernel) (da_cons (dv 6) (da_nil))) (da_nil)))))))))))))
abbrev s_machines : Stmt := topS 8
abbrev NN_machines : List Str := ["parts", "part"]
theorem sc_machines : FnScope NN_machines ["parts"] (defScope s_machines) := ⟨rfl, rfl, rfl, by decide +kernel, rfl, by decide +kernel, by decide +kernel⟩
/-- machines -/
noncomputable def B_machines (g_is_strip : FD) (g_machine : FD) : SD := sRetR (eB gToTup (aCons (eLc (iTpl (eVar 0)) (gNm 1) (bYes) (eIf (bTru (eCall 1 g_is_strip (aCons (eVar 1) (aNil)))) (eCall 1 g_machine (aCons (eBin gIx (eVar 1) (eC (.int 3))) (aNil))) (eTup (aNil))) [1]) (aNil)))
theorem d_machines {P : Program} {w : World} {K : PySem.W.Frag} {mg : Str → Option Value} {base : Heap} {j : Nat} {g_is_strip : FD} {k_is_strip : Nat} (F_is_strip : FnD P w K mg base k_is_strip "is_strip" 1 g_is_strip) (hk_is_strip : k_is_strip ≤ j) {g_machine : FD} {k_machine : Nat} (F_machine : FnD P w K mg base k_machine "machine" 1 g_machine) (hk_machine : k_machine ≤ j) (m_tuple : mg "tuple" = none) {cdv : Value} {A : Around} {outer : List PySem.Env} {s : Shared} {H : Hp} {E : XK} {f : Addr} (hr : Room j (A.deeper (envOfC "machines" (defScope s_machines) s.heap.objs.size f cdv))) :
    DSs (cxOf CX0 P w K mg base NN_machines "machines" (defScope s_machines) f cdv A outer s H E).nox (fun _ _ _ _ => False) (defBody s_machines) (B_machines g_is_strip g_machine) := by
  have hu := hr.units
  have hu1 := units65 hr
  exact dss_one (ds_retR (de_callT cd_tuple rfl m_tuple (by decide +kernel) (da_cons (de_lc (own := [("part", 1)]) rfl sc_machines.nd (di_tup (dv 0)) (blkOk_by (N := NN_machines) (sc := defScope s_machines) (by decide +kernel)) (fun _ _ _ _ _ => dgw 1 sc_machines.nd (by decide)) (fun _ _ _ _ _ => dts_nil) (fun _ _ _ _ _ => de_if (dt_truth (de_call F_is_strip hr hk_is_strip rfl (da_cons (dv 1) (da_nil)))) (de_call F_machine hr hk_machine rfl (da_cons (de_ix (dv 1) (de_int) (fun _ _ => rfl)) (da_nil))) (de_tup (da_nil)))) (da_nil))))
abbrev s_law_is_integer : Stmt := topS 10
abbrev NN_law_is_integer : List Str := ["actual"]
theorem sc_law_is_integer : FnScope NN_law_is_integer ["actual"] (defScope s_law_is_integer) := ⟨rfl, rfl, rfl, by decide +kernel, rfl, by decide +kernel, by decide +kernel⟩
/-- _law_is_integer -/
noncomputable def B_law_is_integer : SD := sRetR (eAnd (eIsi "int" (eVar 0)) (eNot (eIsi "bool" (eVar 0))))
theorem d_law_is_integer {P : Program} {w : World} {K : PySem.W.Frag} {mg : Str → Option Value} {base : Heap} {j : Nat} (m_bool : mg "bool" = none) (m_int : mg "int" = none) (m_isinstance : mg "isinstance" = none) {cdv : Value} {A : Around} {outer : List PySem.Env} {s : Shared} {H : Hp} {E : XK} {f : Addr} (hr : Room j (A.deeper (envOfC "_law_is_integer" (defScope s_law_is_integer) s.heap.objs.size f cdv))) :
    DSs (cxOf CX0 P w K mg base NN_law_is_integer "_law_is_integer" (defScope s_law_is_integer) f cdv A outer s H E).nox (fun _ _ _ _ => False) (defBody s_law_is_integer) (B_law_is_integer) := by
  have hu := hr.units
  have hu1 := units65 hr
  exact dss_one (ds_retR (de_and (de_isi rfl m_isinstance rfl m_int (by decide +kernel) (dv 0)) (de_one (de_not (de_isi rfl m_isinstance rfl m_bool (by decide +kernel) (dv 0))))))
abbrev s_law_cell : Stmt := topS 11
abbrev NN_law_cell : List Str := ["script", "k"]
theorem sc_law_cell : FnScope NN_law_cell ["script", "k"] (defScope s_law_cell) := ⟨rfl, rfl, rfl, by decide +kernel, rfl, by decide +kernel, by decide +kernel⟩
/-- _law_cell -/
noncomputable def B_law_cell : SD := sSeq (sIf (asB (eBin gLt (eVar 1) (eB gLen (aCons (eVar 0) (aNil))))) (sRetR (eBin gIx (eVar 0) (eVar 1))) (sNil)) (sRetR (eC (.int 0)))
theorem d_law_cell {P : Program} {w : World} {K : PySem.W.Frag} {mg : Str → Option Value} {base : Heap} {j : Nat} (m_len : mg "len" = none) {cdv : Value} {A : Around} {outer : List PySem.Env} {s : Shared} {H : Hp} {E : XK} {f : Addr} (hr : Room j (A.deeper (envOfC "_law_cell" (defScope s_law_cell) s.heap.objs.size f cdv))) :
    DSs (cxOf CX0 P w K mg base NN_law_cell "_law_cell" (defScope s_law_cell) f cdv A outer s H E).nox (fun _ _ _ _ => False) (defBody s_law_cell) (B_law_cell) := by
  have hu := hr.units
  have hu1 := units65 hr
  exact dss_cons (ds_if (dt_cmp od_lt (dv 1) (de_callB cd_len rfl m_len boot_len (da_cons (dv 0) (da_nil))) (nomark _)) (dss_one (ds_retR (de_ix (dv 0) (dv 1) (fun _ _ => rfl)))) (dss_nil)) (dss_one (ds_retR (de_int)))
abbrev s_law_list_is : Stmt := topS 12
abbrev NN_law_list_is : List Str := ["actual", "due", "k"]
theorem sc_law_list_is : FnScope NN_law_list_is ["actual", "due"] (defScope s_law_list_is) := ⟨rfl, rfl, rfl, by decide +kernel, rfl, by decide +kernel, by decide +kernel⟩
/-- _law_list_is -/
noncomputable def B_law_list_is (g_law_is_integer : FD) : SD := sSeq (sIf (bOr (bNot (bTru (eIsi "list" (eVar 0)))) (asB (eBin (gEq true) (eB gLen (aCons (eVar 0) (aNil))) (eB gLen (aCons (eVar 1) (aNil)))))) (sRetR (eC (.bool false))) (sNil)) (sSeq (sFor (iRgA (aCons (eB gLen (aCons (eVar 1) (aNil))) (aNil))) (gNm 2) (sIf (bOr (bNot (bTru (eCall 1 g_law_is_integer (aCons (eBin gIx (eVar 0) (eVar 2)) (aNil))))) (asB (eBin (gEq true) (eBin gIx (eVar 0) (eVar 2)) (eBin gIx (eVar 1) (eVar 2))))) (sRetR (eC (.bool false))) (sNil))) (sRetR (eC (.bool true))))
theorem d_law_list_is {P : Program} {w : World} {K : PySem.W.Frag} {mg : Str → Option Value} {base : Heap} {j : Nat} {g_law_is_integer : FD} {k_law_is_integer : Nat} (F_law_is_integer : FnD P w K mg base k_law_is_integer "_law_is_integer" 1 g_law_is_integer) (hk_law_is_integer : k_law_is_integer ≤ j) (m_isinstance : mg "isinstance" = none) (m_len : mg "len" = none) (m_list : mg "list" = none) (m_range : mg "range" = none) {cdv : Value} {A : Around} {outer : List PySem.Env} {s : Shared} {H : Hp} {E : XK} {f : Addr} (hr : Room j (A.deeper (envOfC "_law_list_is" (defScope s_law_list_is) s.heap.objs.size f cdv))) :
    DSs (cxOf CX0 P w K mg base NN_law_list_is "_law_list_is" (defScope s_law_list_is) f cdv A outer s H E).nox (fun _ _ _ _ => False) (defBody s_law_list_is) (B_law_list_is g_law_is_integer) := by
  have hu := hr.units
  have hu1 := units65 hr
  exact dss_cons (ds_if (DW.pt (dw_or (dt_not (dt_truth (de_isi rfl m_isinstance rfl m_list (by decide +kernel) (dv 0)))) (dw_or1 (dt_cmp (od_ne hu) (de_callB cd_len rfl m_len boot_len (da_cons (dv 0) (da_nil))) (de_callB cd_len rfl m_len boot_len (da_cons (dv 1) (da_nil))) (nomark _))))) (dss_one (ds_retR (de_bl))) (dss_nil)) (dss_cons (ds_for PassesOwn.never rfl (di_range1 rfl m_range (da_cons (de_callB cd_len rfl m_len boot_len (da_cons (dv 1) (da_nil))) (da_nil))) (dgn 2 sc_law_list_is.nd) (dss_one (ds_if (DW.pt (dw_or (dt_not (dt_truth (de_call F_law_is_integer hr hk_law_is_integer rfl (da_cons (de_ix (dv 0) (dv 2) (fun _ _ => rfl)) (da_nil))))) (dw_or1 (dt_cmp (od_ne hu) (de_ix (dv 0) (dv 2) (fun _ _ => rfl)) (de_ix (dv 1) (dv 2) (fun _ _ => rfl)) (nomark _))))) (dss_one (ds_retR (de_bl))) (dss_nil)))) (dss_one (ds_retR (de_bl))))
abbrev s_law_same : Stmt := topS 13
abbrev NN_law_same : List Str := ["actual", "due", "k"]
theorem sc_law_same : FnScope NN_law_same ["actual", "due"] (defScope s_law_same) := ⟨rfl, rfl, rfl, by decide +kernel, rfl, by decide +kernel, by decide +kernel⟩
/-- _law_same -/
noncomputable def B_law_same (g_law_is_integer : FD) (g_law_same : FD) : SD := sSeq (sIf (bTru (eIsi "tuple" (eVar 1))) (sSeq (sIf (bOr (bNot (bTru (eIsi "tuple" (eVar 0)))) (asB (eBin (gEq true) (eB gLen (aCons (eVar 0) (aNil))) (eB gLen (aCons (eVar 1) (aNil)))))) (sRetR (eC (.bool false))) (sNil)) (sSeq (sFor (iRgA (aCons (eB gLen (aCons (eVar 1) (aNil))) (aNil))) (gNm 2) (sIf (bNot (bTru (eCall 2 g_law_same (aCons (eBin gIx (eVar 0) (eVar 2)) (aCons (eBin gIx (eVar 1) (eVar 2)) (aNil)))))) (sRetR (eC (.bool false))) (sNil))) (sRetR (eC (.bool true))))) (sNil)) (sSeq (sIf (bTru (eIsi "bool" (eVar 1))) (sRetR (eAnd (eIsi "bool" (eVar 0)) (eBin (gEq false) (eVar 0) (eVar 1)))) (sNil)) (sSeq (sIf (bTru (eIsi "int" (eVar 1))) (sRetR (eAnd (eCall 1 g_law_is_integer (aCons (eVar 0) (aNil))) (eBin (gEq false) (eVar 0) (eVar 1)))) (sNil)) (sRetR (eAnd (eIsi "str" (eVar 0)) (eBin (gEq false) (eVar 0) (eVar 1))))))
theorem d_law_same {P : Program} {w : World} {K : PySem.W.Frag} {mg : Str → Option Value} {base : Heap} {j : Nat} {g_law_is_integer : FD} {k_law_is_integer : Nat} (F_law_is_integer : FnD P w K mg base k_law_is_integer "_law_is_integer" 1 g_law_is_integer) (hk_law_is_integer : k_law_is_integer ≤ j) {g_law_same : FD} {k_law_same : Nat} (F_law_same : FnD P w K mg base k_law_same "_law_same" 2 g_law_same) (hk_law_same : k_law_same ≤ j) (m_bool : mg "bool" = none) (m_int : mg "int" = none) (m_isinstance : mg "isinstance" = none) (m_len : mg "len" = none) (m_range : mg "range" = none) (m_str : mg "str" = none) (m_tuple : mg "tuple" = none) {cdv : Value} {A : Around} {outer : List PySem.Env} {s : Shared} {H : Hp} {E : XK} {f : Addr} (hr : Room j (A.deeper (envOfC "_law_same" (defScope s_law_same) s.heap.objs.size f cdv))) :
    DSs (cxOf CX0 P w K mg base NN_law_same "_law_same" (defScope s_law_same) f cdv A outer s H E).nox (fun _ _ _ _ => False) (defBody s_law_same) (B_law_same g_law_is_integer g_law_same) := by
  have hu := hr.units
  have hu1 := units65 hr
  exact dss_cons (ds_if (dt_truth (de_isi rfl m_isinstance rfl m_tuple (by decide +kernel) (dv 1))) (dss_cons (ds_if (DW.pt (dw_or (dt_not (dt_truth (de_isi rfl m_isinstance rfl m_tuple (by decide +kernel) (dv 0)))) (dw_or1 (dt_cmp (od_ne hu) (de_callB cd_len rfl m_len boot_len (da_cons (dv 0) (da_nil))) (de_callB cd_len rfl m_len boot_len (da_cons (dv 1) (da_nil))) (nomark _))))) (dss_one (ds_retR (de_bl))) (dss_nil)) (dss_cons (ds_for PassesOwn.never rfl (di_range1 rfl m_range (da_cons (de_callB cd_len rfl m_len boot_len (da_cons (dv 1) (da_nil))) (da_nil))) (dgn 2 sc_law_same.nd) (dss_one (ds_if (dt_not (dt_truth (de_call F_law_same hr hk_law_same rfl (da_cons (de_ix (dv 0) (dv 2) (fun _ _ => rfl)) (da_cons (de_ix (dv 1) (dv 2) (fun _ _ => rfl)) (da_nil)))))) (dss_one (ds_retR (de_bl))) (dss_nil)))) (dss_one (ds_retR (de_bl))))) (dss_nil)) (dss_cons (ds_if (dt_truth (de_isi rfl m_isinstance rfl m_bool (by decide +kernel) (dv 1))) (dss_one (ds_retR (de_and (de_isi rfl m_isinstance rfl m_bool (by decide +kernel) (dv 0)) (de_one (de_cmp (od_eq hu) (dv 0) (dv 1) (nomark _)))))) (dss_nil)) (dss_cons (ds_if (dt_truth (de_isi rfl m_isinstance rfl m_int (by decide +kernel) (dv 1))) (dss_one (ds_retR (de_and (de_call F_law_is_integer hr hk_law_is_integer rfl (da_cons (dv 0) (da_nil))) (de_one (de_cmp (od_eq hu) (dv 0) (dv 1) (nomark _)))))) (dss_nil)) (dss_one (ds_retR (de_and (de_isi rfl m_isinstance rfl m_str (by decide +kernel) (dv 0)) (de_one (de_cmp (od_eq hu) (dv 0) (dv 1) (nomark _))))))))
abbrev s_law_pair_is : Stmt := topS 14
abbrev NN_law_pair_is : List Str := ["actual", "thing", "index"]
theorem sc_law_pair_is : FnScope NN_law_pair_is ["actual", "thing", "index"] (defScope s_law_pair_is) := ⟨rfl, rfl, rfl, by decide +kernel, rfl, by decide +kernel, by decide +kernel⟩
/-- _law_pair_is -/
noncomputable def B_law_pair_is (g_law_same : FD) (g_law_is_integer : FD) : SD := sSeq (sIf (bOr (bNot (bTru (eIsi "tuple" (eVar 0)))) (asB (eBin (gEq true) (eB gLen (aCons (eVar 0) (aNil))) (eC (.int 2))))) (sRetR (eC (.bool false))) (sNil)) (sRetR (eAnd (eCall 2 g_law_same (aCons (eBin gIx (eVar 0) (eC (.int 0))) (aCons (eVar 1) (aNil)))) (eAnd (eCall 1 g_law_is_integer (aCons (eBin gIx (eVar 0) (eC (.int 1))) (aNil))) (eBin (gEq false) (eBin gIx (eVar 0) (eC (.int 1))) (eVar 2)))))
theorem d_law_pair_is {P : Program} {w : World} {K : PySem.W.Frag} {mg : Str → Option Value} {base : Heap} {j : Nat} {g_law_same : FD} {k_law_same : Nat} (F_law_same : FnD P w K mg base k_law_same "_law_same" 2 g_law_same) (hk_law_same : k_law_same ≤ j) {g_law_is_integer : FD} {k_law_is_integer : Nat} (F_law_is_integer : FnD P w K mg base k_law_is_integer "_law_is_integer" 1 g_law_is_integer) (hk_law_is_integer : k_law_is_integer ≤ j) (m_isinstance : mg "isinstance" = none) (m_len : mg "len" = none) (m_tuple : mg "tuple" = none) {cdv : Value} {A : Around} {outer : List PySem.Env} {s : Shared} {H : Hp} {E : XK} {f : Addr} (hr : Room j (A.deeper (envOfC "_law_pair_is" (defScope s_law_pair_is) s.heap.objs.size f cdv))) :
    DSs (cxOf CX0 P w K mg base NN_law_pair_is "_law_pair_is" (defScope s_law_pair_is) f cdv A outer s H E).nox (fun _ _ _ _ => False) (defBody s_law_pair_is) (B_law_pair_is g_law_same g_law_is_integer) := by
  have hu := hr.units
  have hu1 := units65 hr
  exact dss_cons (ds_if (DW.pt (dw_or (dt_not (dt_truth (de_isi rfl m_isinstance rfl m_tuple (by decide +kernel) (dv 0)))) (dw_or1 (dt_cmp (od_ne hu) (de_callB cd_len rfl m_len boot_len (da_cons (dv 0) (da_nil))) (de_int) (nomark _))))) (dss_one (ds_retR (de_bl))) (dss_nil)) (dss_one (ds_retR (de_and (de_call F_law_same hr hk_law_same rfl (da_cons (de_ix (dv 0) (de_int) (fun _ _ => rfl)) (da_cons (dv 1) (da_nil)))) (de_and (de_call F_law_is_integer hr hk_law_is_integer rfl (da_cons (de_ix (dv 0) (de_int) (fun _ _ => rfl)) (da_nil))) (de_one (de_cmp (od_eq hu) (de_ix (dv 0) (de_int) (fun _ _ => rfl)) (dv 2) (nomark _)))))))
abbrev s_law_digits : Stmt := topS 15
abbrev NN_law_digits : List Str := ["script", "first", "last", "digits", "k", "cell", "turn", "seed"]
theorem sc_law_digits : FnScope NN_law_digits ["script", "first", "last"] (defScope s_law_digits) := ⟨rfl, rfl, rfl, by decide +kernel, rfl, by decide +kernel, by decide +kernel⟩
/-- _law_digits -/
noncomputable def B_law_digits (g_law_cell : FD) : SD := sSeq (sSet 3 (eLstO (aNil))) (sSeq (sFor (iRgB (aCons (eVar 1) (aCons (eVar 2) (aNil)))) (gNm 4) (sSeq (sSet 5 (eCall 2 g_law_cell (aCons (eVar 0) (aCons (eVar 4) (aNil))))) (sSeq (sIf (asB (eBin gLt (eVar 5) (eC (.int 0)))) (sSet 5 (eBin gSub (eC (.int 1)) (eBin gMul (eC (.int 2)) (eVar 5)))) (sNil)) (sIf (asB (eBin gGe (eVar 5) (eBin gPow (eC (.int 10)) (eC (.int 18))))) (sFor (iRgA (aCons (eC (.int 60)) (aNil))) (gNm 6) (sIf (asB (eBin gGt (eVar 5) (eC (.int 0)))) (sSeq (sExpr (eMth gApp (eVar 3) (aCons (eBin gMod (eB gToInt (aCons (eVar 5) (aNil))) (eC (.int 1000))) (aNil)))) (sSet 5 (eBin gFdv (eVar 5) (eC (.int 1000))))) (sNil))) (sSeq (sSet 7 (eBin gMod (eB gToInt (aCons (eBin gAdd (eBin gAdd (eBin gMul (eVar 5) (eC (.int 48271))) (eBin gMul (eVar 4) (eC (.int 69621)))) (eC (.int 11))) (aNil))) (eC (.int 2147483647)))) (sFor (iRgA (aCons (eC (.int 12)) (aNil))) (gNm 6) (sSeq (sSet 7 (eBin gMod (eB gToInt (aCons (eBin gAdd (eBin gAdd (eBin gMul (eVar 7) (eC (.int 16807))) (eBin gMul (eC (.int 7)) (eVar 6))) (eC (.int 1))) (aNil))) (eC (.int 2147483647)))) (sExpr (eMth gApp (eVar 3) (aCons (eBin gMod (eB gToInt (aCons (eBin gFdv (eVar 7) (eC (.int 997))) (aNil))) (eC (.int 1000))) (aNil))))))))))) (sRetR (eVar 3)))
theorem d_law_digits {P : Program} {w : World} {K : PySem.W.Frag} {mg : Str → Option Value} {base : Heap} {j : Nat} {g_law_cell : FD} {k_law_cell : Nat} (F_law_cell : FnD P w K mg base k_law_cell "_law_cell" 2 g_law_cell) (hk_law_cell : k_law_cell ≤ j) (m_int : mg "int" = none) (m_range : mg "range" = none) {cdv : Value} {A : Around} {outer : List PySem.Env} {s : Shared} {H : Hp} {E : XK} {f : Addr} (hr : Room j (A.deeper (envOfC "_law_digits" (defScope s_law_digits) s.heap.objs.size f cdv))) :
    DSs (cxOf CX0 P w K mg base NN_law_digits "_law_digits" (defScope s_law_digits) f cdv A outer s H E).nox (fun _ _ _ _ => False) (defBody s_law_digits) (B_law_digits g_law_cell) := by
  have hu := hr.units
  have hu1 := units65 hr
  exact dss_cons (dset 3 sc_law_digits.nd (de_lstO (da_nil))) (dss_cons (ds_for PassesOwn.never rfl (di_range2 rfl m_range (da_cons (dv 1) (da_cons (dv 2) (da_nil)))) (dgn 4 sc_law_digits.nd) (dss_cons (dset 5 sc_law_digits.nd (de_call F_law_cell hr hk_law_cell rfl (da_cons (dv 0) (da_cons (dv 4) (da_nil))))) (dss_cons (ds_if (dt_cmp od_lt (dv 5) (de_int) (nomark _)) (dss_one (dset 5 sc_law_digits.nd (de_bin od_sub (de_int) (de_bin od_mul (de_int) (dv 5))))) (dss_nil)) (dss_one (ds_if (dt_cmp od_ge (dv 5) (de_bin od_pow (de_int) (de_int)) (nomark _)) (dss_one (ds_for PassesOwn.never rfl (di_range1 rfl m_range (da_cons (de_int) (da_nil))) (dgn 6 sc_law_digits.nd) (dss_one (ds_if (dt_cmp od_gt (dv 5) (de_int) (nomark _)) (dss_cons (ds_expr (de_mth md_append PySem.F.slot_list_append PySem.F.type_list_append (dv 3) (da_cons (de_bin od_mod (de_callT cd_int rfl m_int (by decide +kernel) (da_cons (dv 5) (da_nil))) (de_int)) (da_nil)))) (dss_one (dset 5 sc_law_digits.nd (de_bin od_fdv (dv 5) (de_int))))) (dss_nil))))) (dss_cons (dset 7 sc_law_digits.nd (de_bin od_mod (de_callT cd_int rfl m_int (by decide +kernel) (da_cons (de_bin od_add (de_bin od_add (de_bin od_mul (dv 5) (de_int)) (de_bin od_mul (dv 4) (de_int))) (de_int)) (da_nil))) (de_int))) (dss_one (ds_for PassesOwn.never rfl (di_range1 rfl m_range (da_cons (de_int) (da_nil))) (dgn 6 sc_law_digits.nd) (dss_cons (dset 7 sc_law_digits.nd (de_bin od_mod (de_callT cd_int rfl m_int (by decide +kernel) (da_cons (de_bin od_add (de_bin od_add (de_bin od_mul (dv 7) (de_int)) (de_bin od_mul (de_int) (dv 6))) (de_int)) (da_nil))) (de_int))) (dss_one (ds_expr (de_mth md_append PySem.F.slot_list_append PySem.F.type_list_append (dv 3) (da_cons (de_bin od_mod (de_callT cd_int rfl m_int (by decide +kernel) (da_cons (de_bin od_fdv (dv 7) (de_int)) (da_nil))) (de_int)) (da_nil)))))))))))))) (dss_one (ds_retR (dv 3))))
abbrev s_law_draw : Stmt := topS 16
abbrev NN_law_draw : List Str := ["box", "many", "at"]
theorem sc_law_draw : FnScope NN_law_draw ["box", "many"] (defScope s_law_draw) := ⟨rfl, rfl, rfl, by decide +kernel, rfl, by decide +kernel, by decide +kernel⟩
/-- _law_draw -/
noncomputable def B_law_draw : SD := sSeq (sSet 2 (eBin gIx (eVar 0) (eC (.int 1)))) (sSeq (sAsg (eBin gAdd (eVar 2) (eC (.int 1))) (gSetL (eVar 0) (eC (.int 1)))) (sSeq (sIf (asB (eBin gLt (eVar 2) (eB gLen (aCons (eBin gIx (eVar 0) (eC (.int 0))) (aNil))))) (sRetR (eBin gMod (eB gToInt (aCons (eBin gIx (eBin gIx (eVar 0) (eC (.int 0))) (eVar 2)) (aNil))) (eVar 1))) (sNil)) (sRetR (eBin gMod (eB gToInt (aCons (eBin gAdd (eBin gMul (eVar 2) (eC (.int 7))) (eC (.int 3))) (aNil))) (eVar 1)))))
theorem d_law_draw {P : Program} {w : World} {K : PySem.W.Frag} {mg : Str → Option Value} {base : Heap} {j : Nat} (m_int : mg "int" = none) (m_len : mg "len" = none) {cdv : Value} {A : Around} {outer : List PySem.Env} {s : Shared} {H : Hp} {E : XK} {f : Addr} (hr : Room j (A.deeper (envOfC "_law_draw" (defScope s_law_draw) s.heap.objs.size f cdv))) :
    DSs (cxOf CX0 P w K mg base NN_law_draw "_law_draw" (defScope s_law_draw) f cdv A outer s H E).nox (fun _ _ _ _ => False) (defBody s_law_draw) (B_law_draw) := by
  have hu := hr.units
  have hu1 := units65 hr
  exact dss_cons (dset 2 sc_law_draw.nd (de_ix (dv 0) (de_int) (fun _ _ => rfl))) (dss_cons (ds_asg (de_bin od_add (dv 2) (de_int)) (dg_setL (dv 0) (de_int))) (dss_cons (ds_if (dt_cmp od_lt (dv 2) (de_callB cd_len rfl m_len boot_len (da_cons (de_ix (dv 0) (de_int) (fun _ _ => rfl)) (da_nil))) (nomark _)) (dss_one (ds_retR (de_bin od_mod (de_callT cd_int rfl m_int (by decide +kernel) (da_cons (de_ix (de_ix (dv 0) (de_int) (fun _ _ => rfl)) (dv 2) (fun _ _ => rfl)) (da_nil))) (dv 1)))) (dss_nil)) (dss_one (ds_retR (de_bin od_mod (de_callT cd_int rfl m_int (by decide +kernel) (da_cons (de_bin od_add (de_bin od_mul (dv 2) (de_int)) (de_int)) (da_nil))) (dv 1))))))
abbrev s_law_rows : Stmt := topS 17
abbrev NN_law_rows : List Str := ["box", "wide", "high", "rows", "y", "x"]
theorem sc_law_rows : FnScope NN_law_rows ["box", "wide", "high"] (defScope s_law_rows) := ⟨rfl, rfl, rfl, by decide +kernel, rfl, by decide +kernel, by decide +kernel⟩
/-- _law_rows -/
noncomputable def B_law_rows (g_law_draw : FD) : SD := sSeq (sSet 3 (eLstO (aNil))) (sSeq (sFor (iRgA (aCons (eVar 2) (aNil))) (gNm 4) (sExpr (eMth gApp (eVar 3) (aCons (eJoin (eC (.str "")) (eLc (iRgA (aCons (eVar 1) (aNil))) (gNm 5) (bYes) (eBin gIx (eC (.str ".#")) (eCall 2 g_law_draw (aCons (eVar 0) (aCons (eC (.int 2)) (aNil))))) [5])) (aNil))))) (sRetR (eB gToTup (aCons (eVar 3) (aNil)))))
theorem d_law_rows {P : Program} {w : World} {K : PySem.W.Frag} {mg : Str → Option Value} {base : Heap} {j : Nat} {g_law_draw : FD} {k_law_draw : Nat} (F_law_draw : FnD P w K mg base k_law_draw "_law_draw" 2 g_law_draw) (hk_law_draw : k_law_draw ≤ j) (m_range : mg "range" = none) (m_tuple : mg "tuple" = none) {cdv : Value} {A : Around} {outer : List PySem.Env} {s : Shared} {H : Hp} {E : XK} {f : Addr} (hr : Room j (A.deeper (envOfC "_law_rows" (defScope s_law_rows) s.heap.objs.size f cdv))) :
    DSs (cxOf CX0 P w K mg base NN_law_rows "_law_rows" (defScope s_law_rows) f cdv A outer s H E).nox (fun _ _ _ _ => False) (defBody s_law_rows) (B_law_rows g_law_draw) := by
  have hu := hr.units
  have hu1 := units65 hr
  exact dss_cons (dset 3 sc_law_rows.nd (de_lstO (da_nil))) (dss_cons (ds_for PassesOwn.never rfl (di_range1 rfl m_range (da_cons (dv 2) (da_nil))) (dgn 4 sc_law_rows.nd) (dss_one (ds_expr (de_mth md_append PySem.F.slot_list_append PySem.F.type_list_append (dv 3) (da_cons (de_join (de_str) (de_lc (own := [("x", 5)]) rfl sc_law_rows.nd (di_range1 rfl m_range (da_cons (dv 1) (da_nil))) (blkOk_by (N := NN_law_rows) (sc := defScope s_law_rows) (by decide +kernel)) (fun _ _ _ _ _ => dgw 5 sc_law_rows.nd (by decide)) (fun _ _ _ _ _ => dts_nil) (fun _ _ _ _ _ => de_ix (de_str) (de_call F_law_draw hr hk_law_draw rfl (da_cons (dv 0) (da_cons (de_int) (da_nil)))) (fun _ _ => rfl)))) (da_nil)))))) (dss_one (ds_retR (de_callT cd_tuple rfl m_tuple (by decide +kernel) (da_cons (dv 3) (da_nil))))))
abbrev s_law_label : Stmt := topS 18
abbrev NN_law_label : List Str := ["box", "signs", "size", "k"]
theorem sc_law_label : FnScope NN_law_label ["box"] (defScope s_law_label) := ⟨rfl, rfl, rfl, by decide +kernel, rfl, by decide +kernel, by decide +kernel⟩
/-- _law_label -/
noncomputable def B_law_label (g_law_draw : FD) : SD := sSeq (sSet 1 (eC (.str "abz09 _,;(){}=|*+?.#'\"\n"))) (sSeq (sSet 2 (eCall 2 g_law_draw (aCons (eVar 0) (aCons (eC (.int 4)) (aNil))))) (sRetR (eJoin (eC (.str "")) (eLc (iRgA (aCons (eVar 2) (aNil))) (gNm 3) (bYes) (eBin gIx (eVar 1) (eCall 2 g_law_draw (aCons (eVar 0) (aCons (eB gLen (aCons (eVar 1) (aNil))) (aNil))))) [3]))))
theorem d_law_label {P : Program} {w : World} {K : PySem.W.Frag} {mg : Str → Option Value} {base : Heap} {j : Nat} {g_law_draw : FD} {k_law_draw : Nat} (F_law_draw : FnD P w K mg base k_law_draw "_law_draw" 2 g_law_draw) (hk_law_draw : k_law_draw ≤ j) (m_len : mg "len" = none) (m_range : mg "range" = none) {cdv : Value} {A : Around} {outer : List PySem.Env} {s : Shared} {H : Hp} {E : XK} {f : Addr} (hr : Room j (A.deeper (envOfC "_law_label" (defScope s_law_label) s.heap.objs.size f cdv))) :
    DSs (cxOf CX0 P w K mg base NN_law_label "_law_label" (defScope s_law_label) f cdv A outer s H E).nox (fun _ _ _ _ => False) (defBody s_law_label) (B_law_label g_law_draw) := by
  have hu := hr.units
  have hu1 := units65 hr
  exact dss_cons (dset 1 sc_law_label.nd (de_str)) (dss_cons (dset 2 sc_law_label.nd (de_call F_law_draw hr hk_law_draw rfl (da_cons (dv 0) (da_cons (de_int) (da_nil))))) (dss_one (ds_retR (de_join (de_str) (de_lc (own := [("k", 3)]) rfl sc_law_label.nd (di_range1 rfl m_range (da_cons (dv 2) (da_nil))) (blkOk_by (N := NN_law_label) (sc := defScope s_law_label) (by decide +kernel)) (fun _ _ _ _ _ => dgw 3 sc_law_label.nd (by decide)) (fun _ _ _ _ _ => dts_nil) (fun _ _ _ _ _ => de_ix (dv 1) (de_call F_law_draw hr hk_law_draw rfl (da_cons (dv 0) (da_cons (de_callB cd_len rfl m_len boot_len (da_cons (dv 1) (da_nil))) (da_nil)))) (fun _ _ => rfl)))))))
abbrev s_law_leaf : Stmt := topS 19
abbrev NN_law_leaf : List Str := ["box", "name", "cost"]
theorem sc_law_leaf : FnScope NN_law_leaf ["box", "name"] (defScope s_law_leaf) := ⟨rfl, rfl, rfl, by decide +kernel, rfl, by decide +kernel, by decide +kernel⟩
/-- _law_leaf -/
noncomputable def B_law_leaf (g_law_draw : FD) (g_law_label : FD) (g_law_rows : FD) : SD := sSeq (sSet 2 (eBin gMul (eCall 2 g_law_draw (aCons (eVar 0) (aCons (eC (.int 3)) (aNil)))) (eCall 2 g_law_draw (aCons (eVar 0) (aCons (eC (.int 3)) (aNil)))))) (sSeq (sIf (asB (eBin (gEq false) (eCall 2 g_law_draw (aCons (eVar 0) (aCons (eC (.int 2)) (aNil)))) (eC (.int 0)))) (sRetR (eTup (aCons (eC (.str "plain")) (aCons (eVar 1) (aCons (eCall 1 g_law_label (aCons (eVar 0) (aNil))) (aCons (eVar 2) (aCons (eBin (gEq false) (eCall 2 g_law_draw (aCons (eVar 0) (aCons (eC (.int 3)) (aNil)))) (eC (.int 0))) (aNil)))))))) (sNil)) (sRetR (eTup (aCons (eC (.str "shape")) (aCons (eVar 1) (aCons (eCall 1 g_law_label (aCons (eVar 0) (aNil))) (aCons (eVar 2) (aCons (eCall 3 g_law_rows (aCons (eVar 0) (aCons (eBin gAdd (eC (.int 1)) (eCall 2 g_law_draw (aCons (eVar 0) (aCons (eC (.int 3)) (aNil))))) (aCons (eBin gAdd (eC (.int 1)) (eCall 2 g_law_draw (aCons (eVar 0) (aCons (eC (.int 3)) (aNil))))) (aNil))))) (aNil)))))))))
theorem d_law_leaf {P : Program} {w : World} {K : PySem.W.Frag} {mg : Str → Option Value} {base : Heap} {j : Nat} {g_law_draw : FD} {k_law_draw : Nat} (F_law_draw : FnD P w K mg base k_law_draw "_law_draw" 2 g_law_draw) (hk_law_draw : k_law_draw ≤ j) {g_law_label : FD} {k_law_label : Nat} (F_law_label : FnD P w K mg base k_law_label "_law_label" 1 g_law_label) (hk_law_label : k_law_label ≤ j) {g_law_rows : FD} {k_law_rows : Nat} (F_law_rows : FnD P w K mg base k_law_rows "_law_rows" 3 g_law_rows) (hk_law_rows : k_law_rows ≤ j) {cdv : Value} {A : Around} {outer : List PySem.Env} {s : Shared} {H : Hp} {E : XK} {f : Addr} (hr : Room j (A.deeper (envOfC "_law_leaf" (defScope s_law_leaf) s.heap.objs.size f cdv))) :
    DSs (cxOf CX0 P w K mg base NN_law_leaf "_law_leaf" (defScope s_law_leaf) f cdv A outer s H E).nox (fun _ _ _ _ => False) (defBody s_law_leaf) (B_law_leaf g_law_draw g_law_label g_law_rows) := by
  have hu := hr.units
  have hu1 := units65 hr
  exact dss_cons (dset 2 sc_law_leaf.nd (de_bin od_mul (de_call F_law_draw hr hk_law_draw rfl (da_cons (dv 0) (da_cons (de_int) (da_nil)))) (de_call F_law_draw hr hk_law_draw rfl (da_cons (dv 0) (da_cons (de_int) (da_nil)))))) (dss_cons (ds_if (dt_cmp (od_eq hu) (de_call F_law_draw hr hk_law_draw rfl (da_cons (dv 0) (da_cons (de_int) (da_nil)))) (de_int) (nomark _)) (dss_one (ds_retR (de_tup (da_cons (de_str) (da_cons (dv 1) (da_cons (de_call F_law_label hr hk_law_label rfl (da_cons (dv 0) (da_nil))) (da_cons (dv 2) (da_cons (de_cmp (od_eq hu) (de_call F_law_draw hr hk_law_draw rfl (da_cons (dv 0) (da_cons (de_int) (da_nil)))) (de_int) (nomark _)) (da_nil))))))))) (dss_nil)) (dss_one (ds_retR (de_tup (da_cons (de_str) (da_cons (dv 1) (da_cons (de_call F_law_label hr hk_law_label rfl (da_cons (dv 0) (da_nil))) (da_cons (dv 2) (da_cons (de_call F_law_rows hr hk_law_rows rfl (da_cons (dv 0) (da_cons (de_bin od_add (de_int) (de_call F_law_draw hr hk_law_draw rfl (da_cons (dv 0) (da_cons (de_int) (da_nil))))) (da_cons (de_bin od_add (de_int) (de_call F_law_draw hr hk_law_draw rfl (da_cons (dv 0) (da_cons (de_int) (da_nil))))) (da_nil))))) (da_nil))))))))))
abbrev s_law_place : Stmt := topS 20
abbrev NN_law_place : List Str := ["box", "parts", "kind", "number", "part", "cost", "least", "size"]
theorem sc_law_place : FnScope NN_law_place ["box", "parts", "kind"] (defScope s_law_place) := ⟨rfl, rfl, rfl, by decide +kernel, rfl, by decide +kernel, by decide +kernel⟩
/-- _law_place -/
noncomputable def B_law_place (g_law_draw : FD) : SD := sSeq (sSet 3 (eBin gMod (eB gToInt (aCons (eCall 2 g_law_draw (aCons (eVar 0) (aCons (eC (.int 60)) (aNil)))) (aNil))) (eB gLen (aCons (eVar 1) (aNil))))) (sSeq (sSet 4 (eBin gIx (eVar 1) (eVar 3))) (sSeq (sSet 5 (eBin gMul (eCall 2 g_law_draw (aCons (eVar 0) (aCons (eC (.int 3)) (aNil)))) (eCall 2 g_law_draw (aCons (eVar 0) (aCons (eC (.int 2)) (aNil)))))) (sSeq (sIf (asB (eBin (gEq false) (eCall 2 g_law_draw (aCons (eVar 0) (aCons (eC (.int 2)) (aNil)))) (eC (.int 0)))) (sSeq (sIf (asB (eBin (gEq false) (eBin gIx (eVar 4) (eC (.int 0))) (eC (.str "shape")))) (sSeq (sSet 7 (eBin gIx (eLst (aCons (eB gLen (aCons (eBin gIx (eVar 4) (eC (.int 4))) (aNil))) (aCons (eB gLen (aCons (eBin gIx (eBin gIx (eVar 4) (eC (.int 4))) (eC (.int 0))) (aNil))) (aNil)))) (eB gToInt (aCons (eBin (gEq false) (eVar 2) (eC (.str "across"))) (aNil))))) (sRetR (eTup (aCons (eC (.str "place")) (aCons (eVar 3) (aCons (eVar 7) (aCons (eVar 7) (aCons (eVar 5) (aNil))))))))) (sNil)) (sRetR (eTup (aCons (eC (.str "place")) (aCons (eVar 3) (aCons (eC (.int 1)) (aCons (eC (.int 24)) (aCons (eVar 5) (aNil))))))))) (sNil)) (sSeq (sSet 6 (eBin gAdd (eC (.int 1)) (eCall 2 g_law_draw (aCons (eVar 0) (aCons (eC (.int 3)) (aNil)))))) (sRetR (eTup (aCons (eC (.str "place")) (aCons (eVar 3) (aCons (eVar 6) (aCons (eBin gAdd (eVar 6) (eCall 2 g_law_draw (aCons (eVar 0) (aCons (eC (.int 3)) (aNil))))) (aCons (eVar 5) (aNil))))))))))))
theorem d_law_place {P : Program} {w : World} {K : PySem.W.Frag} {mg : Str → Option Value} {base : Heap} {j : Nat} {g_law_draw : FD} {k_law_draw : Nat} (F_law_draw : FnD P w K mg base k_law_draw "_law_draw" 2 g_law_draw) (hk_law_draw : k_law_draw ≤ j) (m_int : mg "int" = none) (m_len : mg "len" = none) {cdv : Value} {A : Around} {outer : List PySem.Env} {s : Shared} {H : Hp} {E : XK} {f : Addr} (hr : Room j (A.deeper (envOfC "_law_place" (defScope s_law_place) s.heap.objs.size f cdv))) :
    DSs (cxOf CX0 P w K mg base NN_law_place "_law_place" (defScope s_law_place) f cdv A outer s H E).nox (fun _ _ _ _ => False) (defBody s_law_place) (B_law_place g_law_draw) := by
  have hu := hr.units
  have hu1 := units65 hr
  exact dss_cons (dset 3 sc_law_place.nd (de_bin od_mod (de_callT cd_int rfl m_int (by decide +kernel) (da_cons (de_call F_law_draw hr hk_law_draw rfl (da_cons (dv 0) (da_cons (de_int) (da_nil)))) (da_nil))) (de_callB cd_len rfl m_len boot_len (da_cons (dv 1) (da_nil))))) (dss_cons (dset 4 sc_law_place.nd (de_ix (dv 1) (dv 3) (fun _ _ => rfl))) (dss_cons (dset 5 sc_law_place.nd (de_bin od_mul (de_call F_law_draw hr hk_law_draw rfl (da_cons (dv 0) (da_cons (de_int) (da_nil)))) (de_call F_law_draw hr hk_law_draw rfl (da_cons (dv 0) (da_cons (de_int) (da_nil)))))) (dss_cons (ds_if (dt_cmp (od_eq hu) (de_call F_law_draw hr hk_law_draw rfl (da_cons (dv 0) (da_cons (de_int) (da_nil)))) (de_int) (nomark _)) (dss_cons (ds_if (dt_cmp (od_eq hu) (de_ix (dv 4) (de_int) (fun _ _ => rfl)) (de_str) (nomark _)) (dss_cons (dset 7 sc_law_place.nd (de_ix (de_lst (da_cons (de_callB cd_len rfl m_len boot_len (da_cons (de_ix (dv 4) (de_int) (fun _ _ => rfl)) (da_nil))) (da_cons (de_callB cd_len rfl m_len boot_len (da_cons (de_ix (de_ix (dv 4) (de_int) (fun _ _ => rfl)) (de_int) (fun _ _ => rfl)) (da_nil))) (da_nil)))) (de_callT cd_int rfl m_int (by decide +kernel) (da_cons (de_cmp (od_eq hu) (dv 2) (de_str) (nomark _)) (da_nil))) (fun _ _ => rfl))) (dss_one (ds_retR (de_tup (da_cons (de_str) (da_cons (dv 3) (da_cons (dv 7) (da_cons (dv 7) (da_cons (dv 5) (da_nil)))))))))) (dss_nil)) (dss_one (ds_retR (de_tup (da_cons (de_str) (da_cons (dv 3) (da_cons (de_int) (da_cons (de_int) (da_cons (dv 5) (da_nil)))))))))) (dss_nil)) (dss_cons (dset 6 sc_law_place.nd (de_bin od_add (de_int) (de_call F_law_draw hr hk_law_draw rfl (da_cons (dv 0) (da_cons (de_int) (da_nil)))))) (dss_one (ds_retR (de_tup (da_cons (de_str) (da_cons (dv 3) (da_cons (dv 6) (da_cons (de_bin od_add (dv 6) (de_call F_law_draw hr hk_law_draw rfl (da_cons (dv 0) (da_cons (de_int) (da_nil))))) (da_cons (dv 5) (da_nil)))))))))))))
abbrev s_law_choice : Stmt := topS 21
abbrev NN_law_choice : List Str := ["box", "parts", "kind", "depth", "free", "what", "items", "k"]
theorem sc_law_choice : FnScope NN_law_choice ["box", "parts", "kind", "depth", "free"] (defScope s_law_choice) := ⟨rfl, rfl, rfl, by decide +kernel, rfl, by decide +kernel, by decide +kernel⟩
/-- _law_choice -/
noncomputable def B_law_choice (g_law_draw : FD) (g_law_place : FD) (g_law_choice : FD) : SD := sSeq (sSet 5 (eCall 2 g_law_draw (aCons (eVar 0) (aCons (eC (.int 8)) (aNil))))) (sSeq (sIf (bOr (asB (eBin (gEq false) (eVar 3) (eC (.int 0)))) (bOr (asB (eBin gLt (eVar 5) (eC (.int 3)))) (asB (eBin gLt (eBin gIx (eVar 4) (eC (.int 0))) (eC (.int 2)))))) (sSeq (sAsg (eBin gSub (eBin gIx (eVar 4) (eC (.int 0))) (eC (.int 1))) (gSetL (eVar 4) (eC (.int 0)))) (sRetR (eCall 3 g_law_place (aCons (eVar 0) (aCons (eVar 1) (aCons (eVar 2) (aNil))))))) (sNil)) (sSeq (sIf (asB (eBin gLt (eVar 5) (eC (.int 6)))) (sSeq (sSet 6 (eLstO (aNil))) (sSeq (sFor (iRgA (aCons (eBin gAdd (eC (.int 2)) (eCall 2 g_law_draw (aCons (eVar 0) (aCons (eC (.int 2)) (aNil))))) (aNil))) (gNm 7) (sIf (asB (eBin gGt (eBin gIx (eVar 4) (eC (.int 0))) (eC (.int 0)))) (sExpr (eMth gApp (eVar 6) (aCons (eCall 5 g_law_choice (aCons (eVar 0) (aCons (eVar 1) (aCons (eVar 2) (aCons (eBin gSub (eVar 3) (eC (.int 1))) (aCons (eVar 4) (aNil))))))) (aNil)))) (sNil))) (sSeq (sIf (asB (eBin gLt (eB gLen (aCons (eVar 6) (aNil))) (eC (.int 2)))) (sRetR (eBin gIx (eVar 6) (eC (.int 0)))) (sNil)) (sRetR (eTup (aCons (eBin gIx (eLst (aCons (eC (.str "choice")) (aCons (eC (.str "sequence")) (aCons (eC (.str "sequence")) (aNil))))) (eBin gSub (eVar 5) (eC (.int 3)))) (aCons (eB gToTup (aCons (eVar 6) (aNil))) (aNil)))))))) (sNil)) (sRetR (eTup (aCons (eBin gIx (eLst (aCons (eC (.str "any")) (aCons (eC (.str "some")) (aCons (eC (.str "maybe")) (aNil))))) (eCall 2 g_law_draw (aCons (eVar 0) (aCons (eC (.int 3)) (aNil))))) (aCons (eCall 5 g_law_choice (aCons (eVar 0) (aCons (eVar 1) (aCons (eVar 2) (aCons (eBin gSub (eVar 3) (eC (.int 1))) (aCons (eVar 4) (aNil))))))) (aNil)))))))
theorem d_law_choice {P : Program} {w : World} {K : PySem.W.Frag} {mg : Str → Option Value} {base : Heap} {j : Nat} {g_law_draw : FD} {k_law_draw : Nat} (F_law_draw : FnD P w K mg base k_law_draw "_law_draw" 2 g_law_draw) (hk_law_draw : k_law_draw ≤ j) {g_law_place : FD} {k_law_place : Nat} (F_law_place : FnD P w K mg base k_law_place "_law_place" 3 g_law_place) (hk_law_place : k_law_place ≤ j) {g_law_choice : FD} {k_law_choice : Nat} (F_law_choice : FnD P w K mg base k_law_choice "_law_choice" 5 g_law_choice) (hk_law_choice : k_law_choice ≤ j) (m_len : mg "len" = none) (m_range : mg "range" = none) (m_tuple : mg "tuple" = none) {cdv : Value} {A : Around} {outer : List PySem.Env} {s : Shared} {H : Hp} {E : XK} {f : Addr} (hr : Room j (A.deeper (envOfC "_law_choice" (defScope s_law_choice) s.heap.objs.size f cdv))) :
    DSs (cxOf CX0 P w K mg base NN_law_choice "_law_choice" (defScope s_law_choice) f cdv A outer s H E).nox (fun _ _ _ _ => False) (defBody s_law_choice) (B_law_choice g_law_draw g_law_place g_law_choice) := by
  have hu := hr.units
  have hu1 := units65 hr
  exact dss_cons (dset 5 sc_law_choice.nd (de_call F_law_draw hr hk_law_draw rfl (da_cons (dv 0) (da_cons (de_int) (da_nil))))) (dss_cons (ds_if (DW.pt (dw_or (dt_cmp (od_eq hu) (dv 3) (de_int) (nomark _)) (dw_or (dt_cmp od_lt (dv 5) (de_int) (nomark _)) (dw_or1 (dt_cmp od_lt (de_ix (dv 4) (de_int) (fun _ _ => rfl)) (de_int) (nomark _)))))) (dss_cons (ds_asg (de_bin od_sub (de_ix (dv 4) (de_int) (fun _ _ => rfl)) (de_int)) (dg_setL (dv 4) (de_int))) (dss_one (ds_retR (de_call F_law_place hr hk_law_place rfl (da_cons (dv 0) (da_cons (dv 1) (da_cons (dv 2) (da_nil)))))))) (dss_nil)) (dss_cons (ds_if (dt_cmp od_lt (dv 5) (de_int) (nomark _)) (dss_cons (dset 6 sc_law_choice.nd (de_lstO (da_nil))) (dss_cons (ds_for PassesOwn.never rfl (di_range1 rfl m_range (da_cons (de_bin od_add (de_int) (de_call F_law_draw hr hk_law_draw rfl (da_cons (dv 0) (da_cons (de_int) (da_nil))))) (da_nil))) (dgn 7 sc_law_choice.nd) (dss_one (ds_if (dt_cmp od_gt (de_ix (dv 4) (de_int) (fun _ _ => rfl)) (de_int) (nomark _)) (dss_one (ds_expr (de_mth md_append PySem.F.slot_list_append PySem.F.type_list_append (dv 6) (da_cons (de_call F_law_choice hr hk_law_choice rfl (da_cons (dv 0) (da_cons (dv 1) (da_cons (dv 2) (da_cons (de_bin od_sub (dv 3) (de_int)) (da_cons (dv 4) (da_nil))))))) (da_nil))))) (dss_nil)))) (dss_cons (ds_if (dt_cmp od_lt (de_callB cd_len rfl m_len boot_len (da_cons (dv 6) (da_nil))) (de_int) (nomark _)) (dss_one (ds_retR (de_ix (dv 6) (de_int) (fun _ _ => rfl)))) (dss_nil)) (dss_one (ds_retR (de_tup (da_cons (de_ix (de_lst (da_cons (de_str) (da_cons (de_str) (da_cons (de_str) (da_nil))))) (de_bin od_sub (dv 5) (de_int)) (fun _ _ => rfl)) (da_cons (de_callT cd_tuple rfl m_tuple (by decide +kernel) (da_cons (dv 6) (da_nil))) (da_nil))))))))) (dss_nil)) (dss_one (ds_retR (de_tup (da_cons (de_ix (de_lst (da_cons (de_str) (da_cons (de_str) (da_cons (de_str) (da_nil))))) (de_call F_law_draw hr hk_law_draw rfl (da_cons (dv 0) (da_cons (de_int) (da_nil)))) (fun _ _ => rfl)) (da_cons (de_call F_law_choice hr hk_law_choice rfl (da_cons (dv 0) (da_cons (dv 1) (da_cons (dv 2) (da_cons (de_bin od_sub (dv 3) (de_int)) (da_cons (dv 4) (da_nil))))))) (da_nil))))))))
abbrev s_law_grammar : Stmt := topS 22
abbrev NN_law_grammar : List Str := ["box", "leaves", "strips", "places", "letters", "first", "parts", "k", "kind", "joint", "choice"]
theorem sc_law_grammar : FnScope NN_law_grammar ["box", "leaves", "strips", "places"] (defScope s_law_grammar) := ⟨rfl, rfl, rfl, by decide +kernel, rfl, by decide +kernel, by decide +kernel⟩
/-- _law_grammar -/
noncomputable def B_law_grammar (g_law_draw : FD) (g_law_choice : FD) (g_law_leaf : FD) (g_law_label : FD) : SD := sSeq (sSet 4 (eC (.str "abcdefghijklmnopqrstuvwxyz"))) (sSeq (sSet 5 (eCall 2 g_law_draw (aCons (eVar 0) (aCons (eC (.int 26)) (aNil))))) (sSeq (sSet 6 (eLstO (aNil))) (sSeq (sFor (iRgA (aCons (eVar 1) (aNil))) (gNm 7) (sExpr (eMth gApp (eVar 6) (aCons (eCall 2 g_law_leaf (aCons (eVar 0) (aCons (eBin gAdd (eBin gAdd (eC (.str "x")) (eBin gIx (eVar 4) (eBin gMod (eB gToInt (aCons (eBin gAdd (eVar 5) (eBin gMul (eC (.int 3)) (eVar 7))) (aNil))) (eC (.int 26))))) (eC (.str "_1"))) (aNil)))) (aNil))))) (sSeq (sFor (iRgA (aCons (eVar 2) (aNil))) (gNm 7) (sSeq (sSet 8 (eBin gIx (eLst (aCons (eC (.str "across")) (aCons (eC (.str "down")) (aNil)))) (eCall 2 g_law_draw (aCons (eVar 0) (aCons (eC (.int 2)) (aNil)))))) (sSeq (sSet 9 (eBin gIx (eLst (aCons (eC (.str "")) (aCons (eC (.str "\n")) (aCons (eC (.str " ")) (aCons (eCall 1 g_law_label (aCons (eVar 0) (aNil))) (aNil)))))) (eCall 2 g_law_draw (aCons (eVar 0) (aCons (eC (.int 4)) (aNil)))))) (sSeq (sSet 10 (eCall 5 g_law_choice (aCons (eVar 0) (aCons (eVar 6) (aCons (eVar 8) (aCons (eC (.int 3)) (aCons (eLstO (aCons (eVar 3) (aNil))) (aNil)))))))) (sExpr (eMth gApp (eVar 6) (aCons (eTup (aCons (eVar 8) (aCons (eBin gAdd (eC (.str "y")) (eBin gIx (eVar 4) (eBin gMod (eB gToInt (aCons (eBin gAdd (eVar 5) (eBin gMul (eC (.int 3)) (eVar 7))) (aNil))) (eC (.int 26))))) (aCons (eVar 9) (aCons (eVar 10) (aNil)))))) (aNil)))))))) (sRetR (eB gToTup (aCons (eVar 6) (aNil))))))))
theorem d_law_grammar {P : Program} {w : World} {K : PySem.W.Frag} {mg : Str → Option Value} {base : Heap} {j : Nat} {g_law_draw : FD} {k_law_draw : Nat} (F_law_draw : FnD P w K mg base k_law_draw "_law_draw" 2 g_law_draw) (hk_law_draw : k_law_draw ≤ j) {g_law_choice : FD} {k_law_choice : Nat} (F_law_choice : FnD P w K mg base k_law_choice "_law_choice" 5 g_law_choice) (hk_law_choice : k_law_choice ≤ j) {g_law_leaf : FD} {k_law_leaf : Nat} (F_law_leaf : FnD P w K mg base k_law_leaf "_law_leaf" 2 g_law_leaf) (hk_law_leaf : k_law_leaf ≤ j) {g_law_label : FD} {k_law_label : Nat} (F_law_label : FnD P w K mg base k_law_label "_law_label" 1 g_law_label) (hk_law_label : k_law_label ≤ j) (m_int : mg "int" = none) (m_range : mg "range" = none) (m_tuple : mg "tuple" = none) {cdv : Value} {A : Around} {outer : List PySem.Env} {s : Shared} {H : Hp} {E : XK} {f : Addr} (hr : Room j (A.deeper (envOfC "_law_grammar" (defScope s_law_grammar) s.heap.objs.size f cdv))) :
    DSs (cxOf CX0 P w K mg base NN_law_grammar "_law_grammar" (defScope s_law_grammar) f cdv A outer s H E).nox (fun _ _ _ _ => False) (defBody s_law_grammar) (B_law_grammar g_law_draw g_law_choice g_law_leaf g_law_label) := by
  have hu := hr.units
  have hu1 := units65 hr
  exact dss_cons (dset 4 sc_law_grammar.nd (de_str)) (dss_cons (dset 5 sc_law_grammar.nd (de_call F_law_draw hr hk_law_draw rfl (da_cons (dv 0) (da_cons (de_int) (da_nil))))) (dss_cons (dset 6 sc_law_grammar.nd (de_lstO (da_nil))) (dss_cons (ds_for PassesOwn.never rfl (di_range1 rfl m_range (da_cons (dv 1) (da_nil))) (dgn 7 sc_law_grammar.nd) (dss_one (ds_expr (de_mth md_append PySem.F.slot_list_append PySem.F.type_list_append (dv 6) (da_cons (de_call F_law_leaf hr hk_law_leaf rfl (da_cons (dv 0) (da_cons (de_bin od_add (de_bin od_add (de_str) (de_ix (dv 4) (de_bin od_mod (de_callT cd_int rfl m_int (by decide +kernel) (da_cons (de_bin od_add (dv 5) (de_bin od_mul (de_int) (dv 7))) (da_nil))) (de_int)) (fun _ _ => rfl))) (de_str)) (da_nil)))) (da_nil)))))) (dss_cons (ds_for PassesOwn.never rfl (di_range1 rfl m_range (da_cons (dv 2) (da_nil))) (dgn 7 sc_law_grammar.nd) (dss_cons (dset 8 sc_law_grammar.nd (de_ix (de_lst (da_cons (de_str) (da_cons (de_str) (da_nil)))) (de_call F_law_draw hr hk_law_draw rfl (da_cons (dv 0) (da_cons (de_int) (da_nil)))) (fun _ _ => rfl))) (dss_cons (dset 9 sc_law_grammar.nd (de_ix (de_lst (da_cons (de_str) (da_cons (de_str) (da_cons (de_str) (da_cons (de_call F_law_label hr hk_law_label rfl (da_cons (dv 0) (da_nil))) (da_nil)))))) (de_call F_law_draw hr hk_law_draw rfl (da_cons (dv 0) (da_cons (de_int) (da_nil)))) (fun _ _ => rfl))) (dss_cons (dset 10 sc_law_grammar.nd (de_call F_law_choice hr hk_law_choice rfl (da_cons (dv 0) (da_cons (dv 6) (da_cons (dv 8) (da_cons (de_int) (da_cons (de_lstO (da_cons (dv 3) (da_nil))) (da_nil)))))))) (dss_one (ds_expr (de_mth md_append PySem.F.slot_list_append PySem.F.type_list_append (dv 6) (da_cons (de_tup (da_cons (dv 8) (da_cons (de_bin od_add (de_str) (de_ix (dv 4) (de_bin od_mod (de_callT cd_int rfl m_int (by decide +kernel) (da_cons (de_bin od_add (dv 5) (de_bin od_mul (de_int) (dv 7))) (da_nil))) (de_int)) (fun _ _ => rfl))) (da_cons (dv 9) (da_cons (dv 10) (da_nil)))))) (da_nil))))))))) (dss_one (ds_retR (de_callT cd_tuple rfl m_tuple (by decide +kernel) (da_cons (dv 6) (da_nil)))))))))
abbrev s_law_number : Stmt := topS 23
abbrev NN_law_number : List Str := ["tree", "places", "item"]
theorem sc_law_number : FnScope NN_law_number ["tree", "places"] (defScope s_law_number) := ⟨rfl, rfl, rfl, by decide +kernel, rfl, by decide +kernel, by decide +kernel⟩
/-- _law_number -/
noncomputable def B_law_number (g_law_number : FD) : SD := sSeq (sIf (asB (eBin (gEq false) (eBin gIx (eVar 0) (eC (.int 0))) (eC (.str "place")))) (sSeq (sExpr (eMth gApp (eVar 1) (aCons (eVar 0) (aNil)))) (sRetR (eTup (aCons (eC (.str "place")) (aCons (eB gLen (aCons (eVar 1) (aNil))) (aNil)))))) (sNil)) (sSeq (sIf (asB (eBin (gInA false) (eBin gIx (eVar 0) (eC (.int 0))) (eTup (aCons (eC (.str "any")) (aCons (eC (.str "some")) (aCons (eC (.str "maybe")) (aNil))))))) (sRetR (eTup (aCons (eBin gIx (eVar 0) (eC (.int 0))) (aCons (eCall 2 g_law_number (aCons (eBin gIx (eVar 0) (eC (.int 1))) (aCons (eVar 1) (aNil)))) (aNil))))) (sNil)) (sRetR (eTup (aCons (eBin gIx (eVar 0) (eC (.int 0))) (aCons (eB gToTup (aCons (eLc (iTpl (eBin gIx (eVar 0) (eC (.int 1)))) (gNm 2) (bYes) (eCall 2 g_law_number (aCons (eVar 2) (aCons (eVar 1) (aNil)))) [2]) (aNil))) (aNil))))))
theorem d_law_number {P : Program} {w : World} {K : PySem.W.Frag} {mg : Str → Option Value} {base : Heap} {j : Nat} {g_law_number : FD} {k_law_number : Nat} (F_law_number : FnD P w K mg base k_law_number "_law_number" 2 g_law_number) (hk_law_number : k_law_number ≤ j) (m_len : mg "len" = none) (m_tuple : mg "tuple" = none) {cdv : Value} {A : Around} {outer : List PySem.Env} {s : Shared} {H : Hp} {E : XK} {f : Addr} (hr : Room j (A.deeper (envOfC "_law_number" (defScope s_law_number) s.heap.objs.size f cdv))) :
    DSs (cxOf CX0 P w K mg base NN_law_number "_law_number" (defScope s_law_number) f cdv A outer s H E).nox (fun _ _ _ _ => False) (defBody s_law_number) (B_law_number g_law_number) := by
  have hu := hr.units
  have hu1 := units65 hr
  exact dss_cons (ds_if (dt_cmp (od_eq hu) (de_ix (dv 0) (de_int) (fun _ _ => rfl)) (de_str) (nomark _)) (dss_cons (ds_expr (de_mth md_append PySem.F.slot_list_append PySem.F.type_list_append (dv 1) (da_cons (dv 0) (da_nil)))) (dss_one (ds_retR (de_tup (da_cons (de_str) (da_cons (de_callB cd_len rfl m_len boot_len (da_cons (dv 1) (da_nil))) (da_nil))))))) (dss_nil)) (dss_cons (ds_if (dt_cmp (od_inA hu1) (de_ix (dv 0) (de_int) (fun _ _ => rfl)) (de_tup (da_cons (de_str) (da_cons (de_str) (da_cons (de_str) (da_nil))))) (by rfl)) (dss_one (ds_retR (de_tup (da_cons (de_ix (dv 0) (de_int) (fun _ _ => rfl)) (da_cons (de_call F_law_number hr hk_law_number rfl (da_cons (de_ix (dv 0) (de_int) (fun _ _ => rfl)) (da_cons (dv 1) (da_nil)))) (da_nil)))))) (dss_nil)) (dss_one (ds_retR (de_tup (da_cons (de_ix (dv 0) (de_int) (fun _ _ => rfl)) (da_cons (de_callT cd_tuple rfl m_tuple (by decide +kernel) (da_cons (de_lc (own := [("item", 2)]) rfl sc_law_number.nd (di_tup (de_ix (dv 0) (de_int) (fun _ _ => rfl))) (blkOk_by (N := NN_law_number) (sc := defScope s_law_number) (by decide +kernel)) (fun _ _ _ _ _ => dgw 2 sc_law_number.nd (by decide)) (fun _ _ _ _ _ => dts_nil) (fun _ _ _ _ _ => de_call F_law_number hr hk_law_number rfl (da_cons (dv 2) (da_cons (dv 1) (da_nil))))) (da_nil))) (da_nil)))))))
abbrev s_law_empty : Stmt := topS 24
abbrev NN_law_empty : List Str := ["tree", "empties", "item"]
theorem sc_law_empty : FnScope NN_law_empty ["tree"] (defScope s_law_empty) := ⟨rfl, rfl, rfl, by decide +kernel, rfl, by decide +kernel, by decide +kernel⟩
/-- _law_empty -/
noncomputable def B_law_empty (g_law_empty : FD) : SD := sSeq (sIf (asB (eBin (gEq false) (eBin gIx (eVar 0) (eC (.int 0))) (eC (.str "place")))) (sRetR (eC (.bool false))) (sNil)) (sSeq (sIf (asB (eBin (gEq false) (eBin gIx (eVar 0) (eC (.int 0))) (eC (.str "some")))) (sRetR (eCall 1 g_law_empty (aCons (eBin gIx (eVar 0) (eC (.int 1))) (aNil)))) (sNil)) (sSeq (sIf (asB (eBin (gInA false) (eBin gIx (eVar 0) (eC (.int 0))) (eTup (aCons (eC (.str "any")) (aCons (eC (.str "maybe")) (aNil)))))) (sRetR (eC (.bool true))) (sNil)) (sSeq (sSet 1 (eLc (iTpl (eBin gIx (eVar 0) (eC (.int 1)))) (gNm 2) (bYes) (eCall 1 g_law_empty (aCons (eVar 2) (aNil))) [2])) (sSeq (sIf (asB (eBin (gEq false) (eBin gIx (eVar 0) (eC (.int 0))) (eC (.str "choice")))) (sRetR (eBin (gInA false) (eC (.bool true)) (eVar 1))) (sNil)) (sRetR (eBin (gInA true) (eC (.bool false)) (eVar 1)))))))
theorem d_law_empty {P : Program} {w : World} {K : PySem.W.Frag} {mg : Str → Option Value} {base : Heap} {j : Nat} {g_law_empty : FD} {k_law_empty : Nat} (F_law_empty : FnD P w K mg base k_law_empty "_law_empty" 1 g_law_empty) (hk_law_empty : k_law_empty ≤ j) {cdv : Value} {A : Around} {outer : List PySem.Env} {s : Shared} {H : Hp} {E : XK} {f : Addr} (hr : Room j (A.deeper (envOfC "_law_empty" (defScope s_law_empty) s.heap.objs.size f cdv))) :
    DSs (cxOf CX0 P w K mg base NN_law_empty "_law_empty" (defScope s_law_empty) f cdv A outer s H E).nox (fun _ _ _ _ => False) (defBody s_law_empty) (B_law_empty g_law_empty) := by
  have hu := hr.units
  have hu1 := units65 hr
  exact dss_cons (ds_if (dt_cmp (od_eq hu) (de_ix (dv 0) (de_int) (fun _ _ => rfl)) (de_str) (nomark _)) (dss_one (ds_retR (de_bl))) (dss_nil)) (dss_cons (ds_if (dt_cmp (od_eq hu) (de_ix (dv 0) (de_int) (fun _ _ => rfl)) (de_str) (nomark _)) (dss_one (ds_retR (de_call F_law_empty hr hk_law_empty rfl (da_cons (de_ix (dv 0) (de_int) (fun _ _ => rfl)) (da_nil))))) (dss_nil)) (dss_cons (ds_if (dt_cmp (od_inA hu1) (de_ix (dv 0) (de_int) (fun _ _ => rfl)) (de_tup (da_cons (de_str) (da_cons (de_str) (da_nil)))) (by rfl)) (dss_one (ds_retR (de_bl))) (dss_nil)) (dss_cons (ds_setLc 1 (own := [("item", 2)]) sc_law_empty.nd (di_tup (de_ix (dv 0) (de_int) (fun _ _ => rfl))) (blkOk_by (N := NN_law_empty) (sc := defScope s_law_empty) (by decide +kernel)) (fun _ _ _ _ _ => dgw 2 sc_law_empty.nd (by decide)) (fun _ _ _ _ _ => dts_nil) (fun _ _ _ _ _ => de_call F_law_empty hr hk_law_empty rfl (da_cons (dv 2) (da_nil)))) (dss_cons (ds_if (dt_cmp (od_eq hu) (de_ix (dv 0) (de_int) (fun _ _ => rfl)) (de_str) (nomark _)) (dss_one (ds_retR (de_cmp (od_inA hu1) (de_bl) (dv 1) (by rfl)))) (dss_nil)) (dss_one (ds_retR (de_cmp (od_notinA hu1) (de_bl) (dv 1) (by rfl))))))))
abbrev s_law_ends : Stmt := topS 25
abbrev NN_law_ends : List Str := ["tree", "last", "found", "items", "item"]
theorem sc_law_ends : FnScope NN_law_ends ["tree", "last"] (defScope s_law_ends) := ⟨rfl, rfl, rfl, by decide +kernel, rfl, by decide +kernel, by decide +kernel⟩
/-- _law_ends -/
noncomputable def B_law_ends (g_law_ends : FD) (g_law_empty : FD) : SD := sSeq (sIf (asB (eBin (gEq false) (eBin gIx (eVar 0) (eC (.int 0))) (eC (.str "place")))) (sRetR (eLst (aCons (eBin gIx (eVar 0) (eC (.int 1))) (aNil)))) (sNil)) (sSeq (sIf (asB (eBin (gInA false) (eBin gIx (eVar 0) (eC (.int 0))) (eTup (aCons (eC (.str "any")) (aCons (eC (.str "some")) (aCons (eC (.str "maybe")) (aNil))))))) (sRetR (eCall 2 g_law_ends (aCons (eBin gIx (eVar 0) (eC (.int 1))) (aCons (eVar 1) (aNil))))) (sNil)) (sSeq (sSet 2 (eLst (aNil))) (sSeq (sSet 3 (eB gToListO (aCons (eBin gIx (eVar 0) (eC (.int 1))) (aNil)))) (sSeq (sIf (bTru (eVar 1)) (sExpr (eMth gRevL (eVar 3) aNil)) (sNil)) (sSeq (sFor (iLst (eVar 3)) (gNm 4) (sSeq (sSet 2 (eBin gAdd (eVar 2) (eCall 2 g_law_ends (aCons (eVar 4) (aCons (eVar 1) (aNil)))))) (sIf (bAnd (asB (eBin (gEq false) (eBin gIx (eVar 0) (eC (.int 0))) (eC (.str "sequence")))) (bNot (bTru (eCall 1 g_law_empty (aCons (eVar 4) (aNil)))))) (sBrk) (sNil)))) (sRetR (eVar 2)))))))
theorem d_law_ends {P : Program} {w : World} {K : PySem.W.Frag} {mg : Str → Option Value} {base : Heap} {j : Nat} {g_law_ends : FD} {k_law_ends : Nat} (F_law_ends : FnD P w K mg base k_law_ends "_law_ends" 2 g_law_ends) (hk_law_ends : k_law_ends ≤ j) {g_law_empty : FD} {k_law_empty : Nat} (F_law_empty : FnD P w K mg base k_law_empty "_law_empty" 1 g_law_empty) (hk_law_empty : k_law_empty ≤ j) (m_list : mg "list" = none) {cdv : Value} {A : Around} {outer : List PySem.Env} {s : Shared} {H : Hp} {E : XK} {f : Addr} (hr : Room j (A.deeper (envOfC "_law_ends" (defScope s_law_ends) s.heap.objs.size f cdv))) :
    DSs (cxOf CX0 P w K mg base NN_law_ends "_law_ends" (defScope s_law_ends) f cdv A outer s H E).nox (fun _ _ _ _ => False) (defBody s_law_ends) (B_law_ends g_law_ends g_law_empty) := by
  have hu := hr.units
  have hu1 := units65 hr
  exact dss_cons (ds_if (dt_cmp (od_eq hu) (de_ix (dv 0) (de_int) (fun _ _ => rfl)) (de_str) (nomark _)) (dss_one (ds_retR (de_lst (da_cons (de_ix (dv 0) (de_int) (fun _ _ => rfl)) (da_nil))))) (dss_nil)) (dss_cons (ds_if (dt_cmp (od_inA hu1) (de_ix (dv 0) (de_int) (fun _ _ => rfl)) (de_tup (da_cons (de_str) (da_cons (de_str) (da_cons (de_str) (da_nil))))) (by rfl)) (dss_one (ds_retR (de_call F_law_ends hr hk_law_ends rfl (da_cons (de_ix (dv 0) (de_int) (fun _ _ => rfl)) (da_cons (dv 1) (da_nil)))))) (dss_nil)) (dss_cons (dset 2 sc_law_ends.nd (de_lst (da_nil))) (dss_cons (dset 3 sc_law_ends.nd (de_callT cd_listO rfl m_list (by decide +kernel) (da_cons (de_ix (dv 0) (de_int) (fun _ _ => rfl)) (da_nil)))) (dss_cons (ds_if (dt_truth (dv 1)) (dss_one (ds_expr (de_mth0 md_reverse PySem.F.slot_list_reverse PySem.F.type_list_reverse (dv 3)))) (dss_nil)) (dss_cons (ds_for PassesOwn.never rfl (di_lst (dv 3)) (dgn 4 sc_law_ends.nd) (dss_cons (dset 2 sc_law_ends.nd (de_bin od_add (dv 2) (de_call F_law_ends hr hk_law_ends rfl (da_cons (dv 4) (da_cons (dv 1) (da_nil)))))) (dss_one (ds_if (DW.pt (dw_and (dt_cmp (od_eq hu) (de_ix (dv 0) (de_int) (fun _ _ => rfl)) (de_str) (nomark _)) (dw_and1 (dt_not (dt_truth (de_call F_law_empty hr hk_law_empty rfl (da_cons (dv 4) (da_nil)))))))) (dss_one (ds_break)) (dss_nil))))) (dss_one (ds_retR (dv 2))))))))
abbrev s_law_follows : Stmt := topS 26
abbrev NN_law_follows : List Str := ["tree", "pairs", "a", "item", "k", "b", "m"]
theorem sc_law_follows : FnScope NN_law_follows ["tree", "pairs"] (defScope s_law_follows) := ⟨rfl, rfl, rfl, by decide +kernel, rfl, by decide +kernel, by decide +kernel⟩
/-- _law_follows -/
noncomputable def B_law_follows (g_law_ends : FD) (g_law_follows : FD) (g_law_empty : FD) : SD := sSeq (sIf (asB (eBin (gInA false) (eBin gIx (eVar 0) (eC (.int 0))) (eTup (aCons (eC (.str "any")) (aCons (eC (.str "some")) (aNil)))))) (sFor (iLst (eCall 2 g_law_ends (aCons (eBin gIx (eVar 0) (eC (.int 1))) (aCons (eC (.bool true)) (aNil))))) (gNm 2) (sFor (iLst (eCall 2 g_law_ends (aCons (eBin gIx (eVar 0) (eC (.int 1))) (aCons (eC (.bool false)) (aNil))))) (gNm 5) (sExpr (eMth gApp (eVar 1) (aCons (eTup (aCons (eVar 2) (aCons (eVar 5) (aNil)))) (aNil)))))) (sNil)) (sSeq (sIf (asB (eBin (gInA false) (eBin gIx (eVar 0) (eC (.int 0))) (eTup (aCons (eC (.str "any")) (aCons (eC (.str "some")) (aCons (eC (.str "maybe")) (aNil))))))) (sExpr (eCall 2 g_law_follows (aCons (eBin gIx (eVar 0) (eC (.int 1))) (aCons (eVar 1) (aNil))))) (sNil)) (sSeq (sIf (asB (eBin (gInA false) (eBin gIx (eVar 0) (eC (.int 0))) (eTup (aCons (eC (.str "choice")) (aCons (eC (.str "sequence")) (aNil)))))) (sFor (iTpl (eBin gIx (eVar 0) (eC (.int 1)))) (gNm 3) (sExpr (eCall 2 g_law_follows (aCons (eVar 3) (aCons (eVar 1) (aNil)))))) (sNil)) (sIf (asB (eBin (gEq false) (eBin gIx (eVar 0) (eC (.int 0))) (eC (.str "sequence")))) (sFor (iRgA (aCons (eB gLen (aCons (eBin gIx (eVar 0) (eC (.int 1))) (aNil))) (aNil))) (gNm 4) (sFor (iRgB (aCons (eBin gAdd (eVar 4) (eC (.int 1))) (aCons (eB gLen (aCons (eBin gIx (eVar 0) (eC (.int 1))) (aNil))) (aNil)))) (gNm 6) (sIf (bOr (asB (eBin (gEq false) (eVar 6) (eBin gAdd (eVar 4) (eC (.int 1))))) (asB (eBin (gInA true) (eC (.bool false)) (eLc (iTpl (eSl (eBin gIx (eVar 0) (eC (.int 1))) (oSome (eBin gAdd (eVar 4) (eC (.int 1)))) (oSome (eVar 6)))) (gNm 3) (bYes) (eCall 1 g_law_empty (aCons (eVar 3) (aNil))) [3])))) (sFor (iLst (eCall 2 g_law_ends (aCons (eBin gIx (eBin gIx (eVar 0) (eC (.int 1))) (eVar 4)) (aCons (eC (.bool true)) (aNil))))) (gNm 2) (sFor (iLst (eCall 2 g_law_ends (aCons (eBin gIx (eBin gIx (eVar 0) (eC (.int 1))) (eVar 6)) (aCons (eC (.bool false)) (aNil))))) (gNm 5) (sExpr (eMth gApp (eVar 1) (aCons (eTup (aCons (eVar 2) (aCons (eVar 5) (aNil)))) (aNil)))))) (sNil)))) (sNil))))
theorem d_law_follows {P : Program} {w : World} {K : PySem.W.Frag} {mg : Str → Option Value} {base : Heap} {j : Nat} {g_law_ends : FD} {k_law_ends : Nat} (F_law_ends : FnD P w K mg base k_law_ends "_law_ends" 2 g_law_ends) (hk_law_ends : k_law_ends ≤ j) {g_law_follows : FD} {k_law_follows : Nat} (F_law_follows : FnD P w K mg base k_law_follows "_law_follows" 2 g_law_follows) (hk_law_follows : k_law_follows ≤ j) {g_law_empty : FD} {k_law_empty : Nat} (F_law_empty : FnD P w K mg base k_law_empty "_law_empty" 1 g_law_empty) (hk_law_empty : k_law_empty ≤ j) (m_len : mg "len" = none) (m_range : mg "range" = none) {cdv : Value} {A : Around} {outer : List PySem.Env} {s : Shared} {H : Hp} {E : XK} {f : Addr} (hr : Room j (A.deeper (envOfC "_law_follows" (defScope s_law_follows) s.heap.objs.size f cdv))) :
    DSs (cxOf CX0 P w K mg base NN_law_follows "_law_follows" (defScope s_law_follows) f cdv A outer s H E).nox (fun _ _ _ _ => False) (defBody s_law_follows) (B_law_follows g_law_ends g_law_follows g_law_empty) := by
  have hu := hr.units
  have hu1 := units65 hr
  exact dss_cons (ds_if (dt_cmp (od_inA hu1) (de_ix (dv 0) (de_int) (fun _ _ => rfl)) (de_tup (da_cons (de_str) (da_cons (de_str) (da_nil)))) (by rfl)) (dss_one (ds_for PassesOwn.never rfl (di_lst (de_call F_law_ends hr hk_law_ends rfl (da_cons (de_ix (dv 0) (de_int) (fun _ _ => rfl)) (da_cons (de_bl) (da_nil))))) (dgn 2 sc_law_follows.nd) (dss_one (ds_for PassesOwn.never rfl (di_lst (de_call F_law_ends hr hk_law_ends rfl (da_cons (de_ix (dv 0) (de_int) (fun _ _ => rfl)) (da_cons (de_bl) (da_nil))))) (dgn 5 sc_law_follows.nd) (dss_one (ds_expr (de_mth md_append PySem.F.slot_list_append PySem.F.type_list_append (dv 1) (da_cons (de_tup (da_cons (dv 2) (da_cons (dv 5) (da_nil)))) (da_nil))))))))) (dss_nil)) (dss_cons (ds_if (dt_cmp (od_inA hu1) (de_ix (dv 0) (de_int) (fun _ _ => rfl)) (de_tup (da_cons (de_str) (da_cons (de_str) (da_cons (de_str) (da_nil))))) (by rfl)) (dss_one (ds_expr (de_call F_law_follows hr hk_law_follows rfl (da_cons (de_ix (dv 0) (de_int) (fun _ _ => rfl)) (da_cons (dv 1) (da_nil)))))) (dss_nil)) (dss_cons (ds_if (dt_cmp (od_inA hu1) (de_ix (dv 0) (de_int) (fun _ _ => rfl)) (de_tup (da_cons (de_str) (da_cons (de_str) (da_nil)))) (by rfl)) (dss_one (ds_for PassesOwn.never rfl (di_tup (de_ix (dv 0) (de_int) (fun _ _ => rfl))) (dgn 3 sc_law_follows.nd) (dss_one (ds_expr (de_call F_law_follows hr hk_law_follows rfl (da_cons (dv 3) (da_cons (dv 1) (da_nil)))))))) (dss_nil)) (dss_one (ds_if (dt_cmp (od_eq hu) (de_ix (dv 0) (de_int) (fun _ _ => rfl)) (de_str) (nomark _)) (dss_one (ds_for PassesOwn.never rfl (di_range1 rfl m_range (da_cons (de_callB cd_len rfl m_len boot_len (da_cons (de_ix (dv 0) (de_int) (fun _ _ => rfl)) (da_nil))) (da_nil))) (dgn 4 sc_law_follows.nd) (dss_one (ds_for PassesOwn.never rfl (di_range2 rfl m_range (da_cons (de_bin od_add (dv 4) (de_int)) (da_cons (de_callB cd_len rfl m_len boot_len (da_cons (de_ix (dv 0) (de_int) (fun _ _ => rfl)) (da_nil))) (da_nil)))) (dgn 6 sc_law_follows.nd) (dss_one (ds_if (DW.pt (dw_or (dt_cmp (od_eq hu) (dv 6) (de_bin od_add (dv 4) (de_int)) (nomark _)) (dw_or1 (dt_cmp (od_notinA hu1) (de_bl) (de_lc (own := [("item", 3)]) rfl sc_law_follows.nd (di_tup (de_sl (de_ix (dv 0) (de_int) (fun _ _ => rfl)) (do_some (de_bin od_add (dv 4) (de_int))) (do_some (dv 6)))) (blkOk_by (N := NN_law_follows) (sc := defScope s_law_follows) (by decide +kernel)) (fun _ _ _ _ _ => dgw 3 sc_law_follows.nd (by decide)) (fun _ _ _ _ _ => dts_nil) (fun _ _ _ _ _ => de_call F_law_empty hr hk_law_empty rfl (da_cons (dv 3) (da_nil)))) (by rfl))))) (dss_one (ds_for PassesOwn.never rfl (di_lst (de_call F_law_ends hr hk_law_ends rfl (da_cons (de_ix (de_ix (dv 0) (de_int) (fun _ _ => rfl)) (dv 4) (fun _ _ => rfl)) (da_cons (de_bl) (da_nil))))) (dgn 2 sc_law_follows.nd) (dss_one (ds_for PassesOwn.never rfl (di_lst (de_call F_law_ends hr hk_law_ends rfl (da_cons (de_ix (de_ix (dv 0) (de_int) (fun _ _ => rfl)) (dv 6) (fun _ _ => rfl)) (da_cons (de_bl) (da_nil))))) (dgn 5 sc_law_follows.nd) (dss_one (ds_expr (de_mth md_append PySem.F.slot_list_append PySem.F.type_list_append (dv 1) (da_cons (de_tup (da_cons (dv 2) (da_cons (dv 5) (da_nil)))) (da_nil))))))))) (dss_nil))))))) (dss_nil)))))
abbrev s_law_machine : Stmt := topS 27
abbrev NN_law_machine : List Str := ["choice", "places", "tree", "pairs", "lasts", "rows", "states", "ends", "k", "moves", "state", "end", "row", "b", "place"]
theorem sc_law_machine : FnScope NN_law_machine ["choice"] (defScope s_law_machine) := ⟨rfl, rfl, rfl, by decide +kernel, rfl, by decide +kernel, by decide +kernel⟩
/-- _law_machine -/
noncomputable def B_law_machine (g_law_number : FD) (g_law_follows : FD) (g_law_ends : FD) (g_law_empty : FD) : SD := sSeq (sSet 1 (eLstO (aNil))) (sSeq (sSet 2 (eCall 2 g_law_number (aCons (eVar 0) (aCons (eVar 1) (aNil))))) (sSeq (sSet 3 (eLcO (iLst (eCall 2 g_law_ends (aCons (eVar 2) (aCons (eC (.bool false)) (aNil))))) (gNm 13) (bYes) (eTup (aCons (eC (.int 0)) (aCons (eVar 13) (aNil)))) [13])) (sSeq (sExpr (eCall 2 g_law_follows (aCons (eVar 2) (aCons (eVar 3) (aNil))))) (sSeq (sSet 4 (eCall 2 g_law_ends (aCons (eVar 2) (aCons (eC (.bool true)) (aNil))))) (sSeq (sSet 5 (eLstO (aNil))) (sSeq (sSet 6 (eLstO (aNil))) (sSeq (sSet 7 (eLstO (aNil))) (sSeq (sFor (iRgA (aCons (eBin gAdd (eB gLen (aCons (eVar 1) (aNil))) (eC (.int 1))) (aNil))) (gNm 8) (sSeq (sSet 11 (eBin (gInA false) (eVar 8) (eVar 4))) (sSeq (sIf (asB (eBin (gEq false) (eVar 8) (eC (.int 0)))) (sSet 11 (eCall 1 g_law_empty (aCons (eVar 2) (aNil)))) (sNil)) (sSeq (sSet 12 (eLst (aCons (eLc (iRgA (aCons (eBin gAdd (eB gLen (aCons (eVar 1) (aNil))) (eC (.int 1))) (aNil))) (gNm 13) (asB (eBin (gInA false) (eTup (aCons (eVar 8) (aCons (eVar 13) (aNil)))) (eVar 3))) (eVar 13) [13]) (aCons (eVar 11) (aNil))))) (sSeq (sIf (asB (eBin (gInA true) (eVar 12) (eVar 5))) (sSeq (sExpr (eMth gApp (eVar 5) (aCons (eVar 12) (aNil)))) (sExpr (eMth gApp (eVar 7) (aCons (eVar 11) (aNil))))) (sNil)) (sExpr (eMth gApp (eVar 6) (aCons (eMth gIdx (eVar 5) (aCons (eVar 12) (aNil))) (aNil))))))))) (sSeq (sSet 9 (eLstO (aNil))) (sSeq (sFor (iRgA (aCons (eB gLen (aCons (eVar 5) (aNil))) (aNil))) (gNm 10) (sFor (iLst (eBin gIx (eBin gIx (eVar 5) (eVar 10)) (eC (.int 0)))) (gNm 13) (sSeq (sSet 14 (eBin gIx (eVar 1) (eBin gSub (eVar 13) (eC (.int 1))))) (sExpr (eMth gApp (eVar 9) (aCons (eTup (aCons (eVar 10) (aCons (eBin gIx (eVar 6) (eVar 13)) (aCons (eBin gIx (eVar 14) (eC (.int 1))) (aCons (eBin gIx (eVar 14) (eC (.int 2))) (aCons (eBin gIx (eVar 14) (eC (.int 3))) (aCons (eBin gIx (eVar 14) (eC (.int 4))) (aNil)))))))) (aNil))))))) (sRetR (eTup (aCons (eB gToTup (aCons (eVar 7) (aNil))) (aCons (eB gToTup (aCons (eVar 9) (aNil))) (aNil)))))))))))))))
theorem d_law_machine {P : Program} {w : World} {K : PySem.W.Frag} {mg : Str → Option Value} {base : Heap} {j : Nat} {g_law_number : FD} {k_law_number : Nat} (F_law_number : FnD P w K mg base k_law_number "_law_number" 2 g_law_number) (hk_law_number : k_law_number ≤ j) {g_law_follows : FD} {k_law_follows : Nat} (F_law_follows : FnD P w K mg base k_law_follows "_law_follows" 2 g_law_follows) (hk_law_follows : k_law_follows ≤ j) {g_law_ends : FD} {k_law_ends : Nat} (F_law_ends : FnD P w K mg base k_law_ends "_law_ends" 2 g_law_ends) (hk_law_ends : k_law_ends ≤ j) {g_law_empty : FD} {k_law_empty : Nat} (F_law_empty : FnD P w K mg base k_law_empty "_law_empty" 1 g_law_empty) (hk_law_empty : k_law_empty ≤ j) (m_len : mg "len" = none) (m_range : mg "range" = none) (m_tuple : mg "tuple" = none) {cdv : Value} {A : Around} {outer : List PySem.Env} {s : Shared} {H : Hp} {E : XK} {f : Addr} (hr : Room j (A.deeper (envOfC "_law_machine" (defScope s_law_machine) s.heap.objs.size f cdv))) :
    DSs (cxOf CX0 P w K mg base NN_law_machine "_law_machine" (defScope s_law_machine) f cdv A outer s H E).nox (fun _ _ _ _ => False) (defBody s_law_machine) (B_law_machine g_law_number g_law_follows g_law_ends g_law_empty) := by
  have hu := hr.units
  have hu1 := units65 hr
  exact dss_cons (dset 1 sc_law_machine.nd (de_lstO (da_nil))) (dss_cons (dset 2 sc_law_machine.nd (de_call F_law_number hr hk_law_number rfl (da_cons (dv 0) (da_cons (dv 1) (da_nil))))) (dss_cons (dset 3 sc_law_machine.nd (de_lcO (own := [("b", 13)]) rfl sc_law_machine.nd (di_lst (de_call F_law_ends hr hk_law_ends rfl (da_cons (dv 2) (da_cons (de_bl) (da_nil))))) (blkOk_by (N := NN_law_machine) (sc := defScope s_law_machine) (by decide +kernel)) (fun _ _ _ _ _ => dgw 13 sc_law_machine.nd (by decide)) (fun _ _ _ _ _ => dts_nil) (fun _ _ _ _ _ => de_tup (da_cons (de_int) (da_cons (dv 13) (da_nil)))))) (dss_cons (ds_expr (de_call F_law_follows hr hk_law_follows rfl (da_cons (dv 2) (da_cons (dv 3) (da_nil))))) (dss_cons (dset 4 sc_law_machine.nd (de_call F_law_ends hr hk_law_ends rfl (da_cons (dv 2) (da_cons (de_bl) (da_nil))))) (dss_cons (dset 5 sc_law_machine.nd (de_lstO (da_nil))) (dss_cons (dset 6 sc_law_machine.nd (de_lstO (da_nil))) (dss_cons (dset 7 sc_law_machine.nd (de_lstO (da_nil))) (dss_cons (ds_for PassesOwn.never rfl (di_range1 rfl m_range (da_cons (de_bin od_add (de_callB cd_len rfl m_len boot_len (da_cons (dv 1) (da_nil))) (de_int)) (da_nil))) (dgn 8 sc_law_machine.nd) (dss_cons (dset 11 sc_law_machine.nd (de_cmp (od_inA hu1) (dv 8) (dv 4) (by rfl))) (dss_cons (ds_if (dt_cmp (od_eq hu) (dv 8) (de_int) (nomark _)) (dss_one (dset 11 sc_law_machine.nd (de_call F_law_empty hr hk_law_empty rfl (da_cons (dv 2) (da_nil))))) (dss_nil)) (dss_cons (dset 12 sc_law_machine.nd (de_lst (da_cons (de_lc (own := [("b", 13)]) rfl sc_law_machine.nd (di_range1 rfl m_range (da_cons (de_bin od_add (de_callB cd_len rfl m_len boot_len (da_cons (dv 1) (da_nil))) (de_int)) (da_nil))) (blkOk_by (N := NN_law_machine) (sc := defScope s_law_machine) (by decide +kernel)) (fun _ _ _ _ _ => dgw 13 sc_law_machine.nd (by decide)) (fun _ _ _ _ _ => dts_one (dt_cmp (od_inA hu1) (de_tup (da_cons (dv 8) (da_cons (dv 13) (da_nil)))) (dv 3) (by rfl))) (fun _ _ _ _ _ => dv 13)) (da_cons (dv 11) (da_nil))))) (dss_cons (ds_if (dt_cmp (od_notinA hu1) (dv 12) (dv 5) (by rfl)) (dss_cons (ds_expr (de_mth md_append PySem.F.slot_list_append PySem.F.type_list_append (dv 5) (da_cons (dv 12) (da_nil)))) (dss_one (ds_expr (de_mth md_append PySem.F.slot_list_append PySem.F.type_list_append (dv 7) (da_cons (dv 11) (da_nil)))))) (dss_nil)) (dss_one (ds_expr (de_mth md_append PySem.F.slot_list_append PySem.F.type_list_append (dv 6) (da_cons (de_mth (md_index hu1) PySem.F.slot_list_index PySem.F.type_list_index (dv 5) (da_cons (dv 12) (da_nil))) (da_nil)))))))))) (dss_cons (dset 9 sc_law_machine.nd (de_lstO (da_nil))) (dss_cons (ds_for PassesOwn.never rfl (di_range1 rfl m_range (da_cons (de_callB cd_len rfl m_len boot_len (da_cons (dv 5) (da_nil))) (da_nil))) (dgn 10 sc_law_machine.nd) (dss_one (ds_for PassesOwn.never rfl (di_lst (de_ix (de_ix (dv 5) (dv 10) (fun _ _ => rfl)) (de_int) (fun _ _ => rfl))) (dgn 13 sc_law_machine.nd) (dss_cons (dset 14 sc_law_machine.nd (de_ix (dv 1) (de_bin od_sub (dv 13) (de_int)) (fun _ _ => rfl))) (dss_one (ds_expr (de_mth md_append PySem.F.slot_list_append PySem.F.type_list_append (dv 9) (da_cons (de_tup (da_cons (dv 10) (da_cons (de_ix (dv 6) (dv 13) (fun _ _ => rfl)) (da_cons (de_ix (dv 14) (de_int) (fun _ _ => rfl)) (da_cons (de_ix (dv 14) (de_int) (fun _ _ => rfl)) (da_cons (de_ix (dv 14) (de_int) (fun _ _ => rfl)) (da_cons (de_ix (dv 14) (de_int) (fun _ _ => rfl)) (da_nil)))))))) (da_nil))))))))) (dss_one (ds_retR (de_tup (da_cons (de_callT cd_tuple rfl m_tuple (by decide +kernel) (da_cons (dv 7) (da_nil))) (da_cons (de_callT cd_tuple rfl m_tuple (by decide +kernel) (da_cons (dv 9) (da_nil))) (da_nil))))))))))))))))
abbrev s_law : Stmt := topS 28
abbrev NN_law : List Str := ["script", "box", "parts", "choice", "due", "part", "strip"]
theorem sc_law : FnScope NN_law ["script"] (defScope s_law) := ⟨rfl, rfl, rfl, by decide +kernel, rfl, by decide +kernel, by decide +kernel⟩
/-- law -/
noncomputable def B_law (g_law_grammar : FD) (g_law_choice : FD) (g_law_same : FD) (g_law_digits : FD) (g_machines : FD) (g_law_draw : FD) (g_machine : FD) (g_law_machine : FD) (g_is_strip : FD) : SD := sSeq (sSet 1 (eLstO (aCons (eCall 3 g_law_digits (aCons (eVar 0) (aCons (eC (.int 0)) (aCons (eC (.int 50)) (aNil))))) (aCons (eC (.int 0)) (aNil))))) (sSeq (sSet 2 (eCall 4 g_law_grammar (aCons (eVar 1) (aCons (eBin gAdd (eC (.int 1)) (eCall 2 g_law_draw (aCons (eVar 1) (aCons (eC (.int 3)) (aNil))))) (aCons (eBin gAdd (eC (.int 1)) (eCall 2 g_law_draw (aCons (eVar 1) (aCons (eC (.int 2)) (aNil))))) (aCons (eC (.int 5)) (aNil))))))) (sSeq (sSet 3 (eCall 5 g_law_choice (aCons (eVar 1) (aCons (eVar 2) (aCons (eBin gIx (eLst (aCons (eC (.str "across")) (aCons (eC (.str "down")) (aNil)))) (eCall 2 g_law_draw (aCons (eVar 1) (aCons (eC (.int 2)) (aNil))))) (aCons (eC (.int 4)) (aCons (eLstO (aCons (eC (.int 6)) (aNil))) (aNil)))))))) (sSeq (sIf (bNot (bTru (eCall 2 g_law_same (aCons (eCall 1 g_machine (aCons (eVar 3) (aNil))) (aCons (eCall 1 g_law_machine (aCons (eVar 3) (aNil))) (aNil)))))) (sRetR (eC (.bool false))) (sNil)) (sSeq (sSet 4 (eTup (aNil))) (sSeq (sFor (iTpl (eVar 2)) (gNm 5) (sSeq (sSet 6 (eBin (gInA false) (eBin gIx (eVar 5) (eC (.int 0))) (eTup (aCons (eC (.str "across")) (aCons (eC (.str "down")) (aNil)))))) (sSeq (sIf (bNot (bTru (eCall 2 g_law_same (aCons (eCall 1 g_is_strip (aCons (eVar 5) (aNil))) (aCons (eVar 6) (aNil)))))) (sRetR (eC (.bool false))) (sNil)) (sSet 4 (eBin gAdd (eVar 4) (eTup (aCons (eIf (bTru (eVar 6)) (eBin gIx (eLst (aCons (eTup (aNil)) (aCons (eCall 1 g_law_machine (aCons (eBin gIx (eVar 5) (eC (.int 3))) (aNil))) (aNil)))) (eC (.int 1))) (eTup (aNil))) (aNil)))))))) (sRetR (eCall 2 g_law_same (aCons (eCall 1 g_machines (aCons (eVar 2) (aNil))) (aCons (eVar 4) (aNil))))))))))
theorem d_law {P : Program} {w : World} {K : PySem.W.Frag} {mg : Str → Option Value} {base : Heap} {j : Nat} {g_law_grammar : FD} {k_law_grammar : Nat} (F_law_grammar : FnD P w K mg base k_law_grammar "_law_grammar" 4 g_law_grammar) (hk_law_grammar : k_law_grammar ≤ j) {g_law_choice : FD} {k_law_choice : Nat} (F_law_choice : FnD P w K mg base k_law_choice "_law_choice" 5 g_law_choice) (hk_law_choice : k_law_choice ≤ j) {g_law_same : FD} {k_law_same : Nat} (F_law_same : FnD P w K mg base k_law_same "_law_same" 2 g_law_same) (hk_law_same : k_law_same ≤ j) {g_law_digits : FD} {k_law_digits : Nat} (F_law_digits : FnD P w K mg base k_law_digits "_law_digits" 3 g_law_digits) (hk_law_digits : k_law_digits ≤ j) {g_machines : FD} {k_machines : Nat} (F_machines : FnD P w K mg base k_machines "machines" 1 g_machines) (hk_machines : k_machines ≤ j) {g_law_draw : FD} {k_law_draw : Nat} (F_law_draw : FnD P w K mg base k_law_draw "_law_draw" 2 g_law_draw) (hk_law_draw : k_law_draw ≤ j) {g_machine : FD} {k_machine : Nat} (F_machine : FnD P w K mg base k_machine "machine" 1 g_machine) (hk_machine : k_machine ≤ j) {g_law_machine : FD} {k_law_machine : Nat} (F_law_machine : FnD P w K mg base k_law_machine "_law_machine" 1 g_law_machine) (hk_law_machine : k_law_machine ≤ j) {g_is_strip : FD} {k_is_strip : Nat} (F_is_strip : FnD P w K mg base k_is_strip "is_strip" 1 g_is_strip) (hk_is_strip : k_is_strip ≤ j) {cdv : Value} {A : Around} {outer : List PySem.Env} {s : Shared} {H : Hp} {E : XK} {f : Addr} (hr : Room j (A.deeper (envOfC "law" (defScope s_law) s.heap.objs.size f cdv))) :
    DSs (cxOf CX0 P w K mg base NN_law "law" (defScope s_law) f cdv A outer s H E).nox (fun _ _ _ _ => False) (defBody s_law) (B_law g_law_grammar g_law_choice g_law_same g_law_digits g_machines g_law_draw g_machine g_law_machine g_is_strip) := by
  have hu := hr.units
  have hu1 := units65 hr
  exact dss_cons (dset 1 sc_law.nd (de_lstO (da_cons (de_call F_law_digits hr hk_law_digits rfl (da_cons (dv 0) (da_cons (de_int) (da_cons (de_int) (da_nil))))) (da_cons (de_int) (da_nil))))) (dss_cons (dset 2 sc_law.nd (de_call F_law_grammar hr hk_law_grammar rfl (da_cons (dv 1) (da_cons (de_bin od_add (de_int) (de_call F_law_draw hr hk_law_draw rfl (da_cons (dv 1) (da_cons (de_int) (da_nil))))) (da_cons (de_bin od_add (de_int) (de_call F_law_draw hr hk_law_draw rfl (da_cons (dv 1) (da_cons (de_int) (da_nil))))) (da_cons (de_int) (da_nil))))))) (dss_cons (dset 3 sc_law.nd (de_call F_law_choice hr hk_law_choice rfl (da_cons (dv 1) (da_cons (dv 2) (da_cons (de_ix (de_lst (da_cons (de_str) (da_cons (de_str) (da_nil)))) (de_call F_law_draw hr hk_law_draw rfl (da_cons (dv 1) (da_cons (de_int) (da_nil)))) (fun _ _ => rfl)) (da_cons (de_int) (da_cons (de_lstO (da_cons (de_int) (da_nil))) (da_nil)))))))) (dss_cons (ds_if (dt_not (dt_truth (de_call F_law_same hr hk_law_same rfl (da_cons (de_call F_machine hr hk_machine rfl (da_cons (dv 3) (da_nil))) (da_cons (de_call F_law_machine hr hk_law_machine rfl (da_cons (dv 3) (da_nil))) (da_nil)))))) (dss_one (ds_retR (de_bl))) (dss_nil)) (dss_cons (dset 4 sc_law.nd (de_tup (da_nil))) (dss_cons (ds_for PassesOwn.never rfl (di_tup (dv 2)) (dgn 5 sc_law.nd) (dss_cons (dset 6 sc_law.nd (de_cmp (od_inA hu1) (de_ix (dv 5) (de_int) (fun _ _ => rfl)) (de_tup (da_cons (de_str) (da_cons (de_str) (da_nil)))) (by rfl))) (dss_cons (ds_if (dt_not (dt_truth (de_call F_law_same hr hk_law_same rfl (da_cons (de_call F_is_strip hr hk_is_strip rfl (da_cons (dv 5) (da_nil))) (da_cons (dv 6) (da_nil)))))) (dss_one (ds_retR (de_bl))) (dss_nil)) (dss_one (dset 4 sc_law.nd (de_bin od_add (dv 4) (de_tup (da_cons (de_if (dt_truth (dv 6)) (de_ix (de_lst (da_cons (de_tup (da_nil)) (da_cons (de_call F_law_machine hr hk_law_machine rfl (da_cons (de_ix (dv 5) (de_int) (fun _ _ => rfl)) (da_nil))) (da_nil)))) (de_int) (fun _ _ => rfl)) (de_tup (da_nil))) (da_nil))))))))) (dss_one (ds_retR (de_call F_law_same hr hk_law_same rfl (da_cons (de_call F_machines hr hk_machines rfl (da_cons (dv 2) (da_nil))) (da_cons (dv 4) (da_nil)))))))))))
end My

namespace My
open PySem PySem.Spec PyProof.Rows L2 DL
/-! the defs together -/
noncomputable def G_law_draw : FD := gB NN_law_draw (B_law_draw)
noncomputable def G_law_place : FD := gB NN_law_place (B_law_place G_law_draw)
noncomputable def G_law_choice : Nat → FD
  | 0 => fun _ _ => .st
  | n + 1 => gB NN_law_choice (B_law_choice G_law_draw G_law_place (G_law_choice n))
noncomputable def G_law_label : FD := gB NN_law_label (B_law_label G_law_draw)
noncomputable def G_law_rows : FD := gB NN_law_rows (B_law_rows G_law_draw)
noncomputable def G_law_leaf : FD := gB NN_law_leaf (B_law_leaf G_law_draw G_law_label G_law_rows)
noncomputable def G_law_grammar : FD := gB NN_law_grammar (B_law_grammar G_law_draw (G_law_choice 6) G_law_leaf G_law_label)
noncomputable def G_law_is_integer : FD := gB NN_law_is_integer (B_law_is_integer)
noncomputable def G_law_same : Nat → FD
  | 0 => fun _ _ => .st
  | n + 1 => gB NN_law_same (B_law_same G_law_is_integer (G_law_same n))
noncomputable def G_law_cell : FD := gB NN_law_cell (B_law_cell)
noncomputable def G_law_digits : FD := gB NN_law_digits (B_law_digits G_law_cell)
noncomputable def G_is_strip : FD := gB NN_is_strip (B_is_strip)
noncomputable def G_all_pairs : FD := gB NN_all_pairs (B_all_pairs)
noncomputable def G_list_places : Nat → FD
  | 0 => fun _ _ => .st
  | n + 1 => gB NN_list_places (B_list_places (G_list_places n))
noncomputable def G_outline_of_sequence (g_head : FD) : FD := gB NN_outline_of_sequence (B_outline_of_sequence g_head G_all_pairs (G_list_places 6))
noncomputable def G_outline_of_choice (g_head : FD) : FD := gB NN_outline_of_choice (B_outline_of_choice g_head (G_list_places 6))
noncomputable def G_outline : Nat → FD
  | 0 => fun _ _ => .st
  | n + 1 => gB NN_outline (B_outline (G_outline n) (G_outline_of_sequence (G_outline n)) (G_outline_of_choice (G_outline n)) G_all_pairs)
noncomputable def G_machine : FD := gB NN_machine (B_machine (G_outline 6) (G_list_places 6))
noncomputable def G_machines : FD := gB NN_machines (B_machines G_is_strip G_machine)
noncomputable def G_law_number : Nat → FD
  | 0 => fun _ _ => .st
  | n + 1 => gB NN_law_number (B_law_number (G_law_number n))
noncomputable def G_law_empty : Nat → FD
  | 0 => fun _ _ => .st
  | n + 1 => gB NN_law_empty (B_law_empty (G_law_empty n))
noncomputable def G_law_ends : Nat → FD
  | 0 => fun _ _ => .st
  | n + 1 => gB NN_law_ends (B_law_ends (G_law_ends n) (G_law_empty 6))
noncomputable def G_law_follows : Nat → FD
  | 0 => fun _ _ => .st
  | n + 1 => gB NN_law_follows (B_law_follows (G_law_ends 6) (G_law_follows n) (G_law_empty 6))
noncomputable def G_law_machine : FD := gB NN_law_machine (B_law_machine (G_law_number 6) (G_law_follows 6) (G_law_ends 6) (G_law_empty 6))
noncomputable def G_law : FD := gB NN_law (B_law G_law_grammar (G_law_choice 6) (G_law_same 10) G_law_digits G_machines G_law_draw G_machine G_law_machine G_is_strip)
def dd_law_draw : He.DefD := ⟨("_law_draw", none), "_law_draw", "_law_draw", defArgs s_law_draw, defBody s_law_draw, defScope s_law_draw, [], []⟩
theorem bb_law_draw : BindsAs "_law_draw" s_law_draw ["box", "many"] := fun _ _ _ _ _ _ us hl => match us, hl with | [_, _], _ => rfl
def dd_law_place : He.DefD := ⟨("_law_place", none), "_law_place", "_law_place", defArgs s_law_place, defBody s_law_place, defScope s_law_place, [], []⟩
theorem bb_law_place : BindsAs "_law_place" s_law_place ["box", "parts", "kind"] := fun _ _ _ _ _ _ us hl => match us, hl with | [_, _, _], _ => rfl
def dd_law_choice : He.DefD := ⟨("_law_choice", none), "_law_choice", "_law_choice", defArgs s_law_choice, defBody s_law_choice, defScope s_law_choice, [], []⟩
theorem bb_law_choice : BindsAs "_law_choice" s_law_choice ["box", "parts", "kind", "depth", "free"] := fun _ _ _ _ _ _ us hl => match us, hl with | [_, _, _, _, _], _ => rfl
def dd_law_label : He.DefD := ⟨("_law_label", none), "_law_label", "_law_label", defArgs s_law_label, defBody s_law_label, defScope s_law_label, [], []⟩
theorem bb_law_label : BindsAs "_law_label" s_law_label ["box"] := fun _ _ _ _ _ _ us hl => match us, hl with | [_], _ => rfl
def dd_law_rows : He.DefD := ⟨("_law_rows", none), "_law_rows", "_law_rows", defArgs s_law_rows, defBody s_law_rows, defScope s_law_rows, [], []⟩
theorem bb_law_rows : BindsAs "_law_rows" s_law_rows ["box", "wide", "high"] := fun _ _ _ _ _ _ us hl => match us, hl with | [_, _, _], _ => rfl
def dd_law_leaf : He.DefD := ⟨("_law_leaf", none), "_law_leaf", "_law_leaf", defArgs s_law_leaf, defBody s_law_leaf, defScope s_law_leaf, [], []⟩
theorem bb_law_leaf : BindsAs "_law_leaf" s_law_leaf ["box", "name"] := fun _ _ _ _ _ _ us hl => match us, hl with | [_, _], _ => rfl
def dd_law_grammar : He.DefD := ⟨("_law_grammar", none), "_law_grammar", "_law_grammar", defArgs s_law_grammar, defBody s_law_grammar, defScope s_law_grammar, [], []⟩
theorem bb_law_grammar : BindsAs "_law_grammar" s_law_grammar ["box", "leaves", "strips", "places"] := fun _ _ _ _ _ _ us hl => match us, hl with | [_, _, _, _], _ => rfl
def dd_law_is_integer : He.DefD := ⟨("_law_is_integer", none), "_law_is_integer", "_law_is_integer", defArgs s_law_is_integer, defBody s_law_is_integer, defScope s_law_is_integer, [], []⟩
theorem bb_law_is_integer : BindsAs "_law_is_integer" s_law_is_integer ["actual"] := fun _ _ _ _ _ _ us hl => match us, hl with | [_], _ => rfl
def dd_law_same : He.DefD := ⟨("_law_same", none), "_law_same", "_law_same", defArgs s_law_same, defBody s_law_same, defScope s_law_same, [], []⟩
theorem bb_law_same : BindsAs "_law_same" s_law_same ["actual", "due"] := fun _ _ _ _ _ _ us hl => match us, hl with | [_, _], _ => rfl
def dd_law_cell : He.DefD := ⟨("_law_cell", none), "_law_cell", "_law_cell", defArgs s_law_cell, defBody s_law_cell, defScope s_law_cell, [], []⟩
theorem bb_law_cell : BindsAs "_law_cell" s_law_cell ["script", "k"] := fun _ _ _ _ _ _ us hl => match us, hl with | [_, _], _ => rfl
def dd_law_digits : He.DefD := ⟨("_law_digits", none), "_law_digits", "_law_digits", defArgs s_law_digits, defBody s_law_digits, defScope s_law_digits, [], []⟩
theorem bb_law_digits : BindsAs "_law_digits" s_law_digits ["script", "first", "last"] := fun _ _ _ _ _ _ us hl => match us, hl with | [_, _, _], _ => rfl
def dd_is_strip : He.DefD := ⟨("is_strip", none), "is_strip", "is_strip", defArgs s_is_strip, defBody s_is_strip, defScope s_is_strip, [], []⟩
theorem bb_is_strip : BindsAs "is_strip" s_is_strip ["part"] := fun _ _ _ _ _ _ us hl => match us, hl with | [_], _ => rfl
def dd_all_pairs : He.DefD := ⟨("all_pairs", none), "all_pairs", "all_pairs", defArgs s_all_pairs, defBody s_all_pairs, defScope s_all_pairs, [], []⟩
theorem bb_all_pairs : BindsAs "all_pairs" s_all_pairs ["ahead", "behind"] := fun _ _ _ _ _ _ us hl => match us, hl with | [_, _], _ => rfl
def dd_list_places : He.DefD := ⟨("list_places", none), "list_places", "list_places", defArgs s_list_places, defBody s_list_places, defScope s_list_places, [], []⟩
theorem bb_list_places : BindsAs "list_places" s_list_places ["expression"] := fun _ _ _ _ _ _ us hl => match us, hl with | [_], _ => rfl
def dd_outline_of_sequence : He.DefD := ⟨("outline_of_sequence", none), "outline_of_sequence", "outline_of_sequence", defArgs s_outline_of_sequence, defBody s_outline_of_sequence, defScope s_outline_of_sequence, [], []⟩
theorem bb_outline_of_sequence : BindsAs "outline_of_sequence" s_outline_of_sequence ["items", "number"] := fun _ _ _ _ _ _ us hl => match us, hl with | [_, _], _ => rfl
def dd_outline_of_choice : He.DefD := ⟨("outline_of_choice", none), "outline_of_choice", "outline_of_choice", defArgs s_outline_of_choice, defBody s_outline_of_choice, defScope s_outline_of_choice, [], []⟩
theorem bb_outline_of_choice : BindsAs "outline_of_choice" s_outline_of_choice ["items", "number"] := fun _ _ _ _ _ _ us hl => match us, hl with | [_, _], _ => rfl
def dd_outline : He.DefD := ⟨("outline", none), "outline", "outline", defArgs s_outline, defBody s_outline, defScope s_outline, [], []⟩
theorem bb_outline : BindsAs "outline" s_outline ["expression", "number"] := fun _ _ _ _ _ _ us hl => match us, hl with | [_, _], _ => rfl
def dd_machine : He.DefD := ⟨("machine", none), "machine", "machine", defArgs s_machine, defBody s_machine, defScope s_machine, [], []⟩
theorem bb_machine : BindsAs "machine" s_machine ["choice"] := fun _ _ _ _ _ _ us hl => match us, hl with | [_], _ => rfl
def dd_machines : He.DefD := ⟨("machines", none), "machines", "machines", defArgs s_machines, defBody s_machines, defScope s_machines, [], []⟩
theorem bb_machines : BindsAs "machines" s_machines ["parts"] := fun _ _ _ _ _ _ us hl => match us, hl with | [_], _ => rfl
def dd_law_number : He.DefD := ⟨("_law_number", none), "_law_number", "_law_number", defArgs s_law_number, defBody s_law_number, defScope s_law_number, [], []⟩
theorem bb_law_number : BindsAs "_law_number" s_law_number ["tree", "places"] := fun _ _ _ _ _ _ us hl => match us, hl with | [_, _], _ => rfl
def dd_law_empty : He.DefD := ⟨("_law_empty", none), "_law_empty", "_law_empty", defArgs s_law_empty, defBody s_law_empty, defScope s_law_empty, [], []⟩
theorem bb_law_empty : BindsAs "_law_empty" s_law_empty ["tree"] := fun _ _ _ _ _ _ us hl => match us, hl with | [_], _ => rfl
def dd_law_ends : He.DefD := ⟨("_law_ends", none), "_law_ends", "_law_ends", defArgs s_law_ends, defBody s_law_ends, defScope s_law_ends, [], []⟩
theorem bb_law_ends : BindsAs "_law_ends" s_law_ends ["tree", "last"] := fun _ _ _ _ _ _ us hl => match us, hl with | [_, _], _ => rfl
def dd_law_follows : He.DefD := ⟨("_law_follows", none), "_law_follows", "_law_follows", defArgs s_law_follows, defBody s_law_follows, defScope s_law_follows, [], []⟩
theorem bb_law_follows : BindsAs "_law_follows" s_law_follows ["tree", "pairs"] := fun _ _ _ _ _ _ us hl => match us, hl with | [_, _], _ => rfl
def dd_law_machine : He.DefD := ⟨("_law_machine", none), "_law_machine", "_law_machine", defArgs s_law_machine, defBody s_law_machine, defScope s_law_machine, [], []⟩
theorem bb_law_machine : BindsAs "_law_machine" s_law_machine ["choice"] := fun _ _ _ _ _ _ us hl => match us, hl with | [_], _ => rfl
def dd_law : He.DefD := ⟨("law", none), "law", "law", defArgs s_law, defBody s_law, defScope s_law, [], []⟩
theorem bb_law : BindsAs "law" s_law ["script"] := fun _ _ _ _ _ _ us hl => match us, hl with | [_], _ => rfl
def fnsD : List He.DefD := [dd_law_draw, dd_law_place, dd_law_choice, dd_law_label, dd_law_rows, dd_law_leaf, dd_law_grammar, dd_law_is_integer, dd_law_same, dd_law_cell, dd_law_digits, dd_is_strip, dd_all_pairs, dd_list_places, dd_outline_of_sequence, dd_outline_of_choice, dd_outline, dd_machine, dd_machines, dd_law_number, dd_law_empty, dd_law_ends, dd_law_follows, dd_law_machine, dd_law]
def faD0 : List He.Fa := [.glo "_law_draw", .glo "_law_place", .glo "_law_choice", .glo "_law_label", .glo "_law_rows", .glo "_law_leaf", .glo "_law_grammar", .glo "_law_is_integer", .glo "_law_same", .glo "_law_cell", .glo "_law_digits", .glo "is_strip", .glo "all_pairs", .glo "list_places", .glo "outline_of_sequence", .glo "outline_of_choice", .glo "outline", .glo "machine", .glo "machines", .glo "_law_number", .glo "_law_empty", .glo "_law_ends", .glo "_law_follows", .glo "_law_machine", .glo "law", .free "int", .free "len", .free "range", .free "tuple", .free "bool"]
def faD1 : List He.Fa := [.free "isinstance", .free "str", .free "sorted", .free "list"]
def faD : List He.Fa := faD0 ++ faD1
def moreD (K : PySem.W.Frag) : Bool := true
theorem all_fns {P : Program} {w : World} {K : PySem.W.Frag} {h base : Heap} {mg : Str → Option Value} (X : K.In h) (G : h.Ns mainGlobals mg) (c : He.SaysD faD fnsD K) (cm : moreD K = true) :
    ∃ (f : Addr) (fd : FuncData), mg "law" = some (.ref f) ∧ FunS K "law" s_law f fd ∧ FnOk P w K mg base CX0 21 f fd ["script"] (spOf K mg 1 (fun ds S => noEx (G_law ds S))) := by
  obtain ⟨fd_law_draw, U_law_draw⟩ := c.def_ 0 (d := dd_law_draw) rfl
  have U_law_draw : FunS K "_law_draw" s_law_draw (He.ga K "_law_draw") fd_law_draw := U_law_draw
  obtain ⟨fd_law_place, U_law_place⟩ := c.def_ 1 (d := dd_law_place) rfl
  have U_law_place : FunS K "_law_place" s_law_place (He.ga K "_law_place") fd_law_place := U_law_place
  obtain ⟨fd_law_choice, U_law_choice⟩ := c.def_ 2 (d := dd_law_choice) rfl
  have U_law_choice : FunS K "_law_choice" s_law_choice (He.ga K "_law_choice") fd_law_choice := U_law_choice
  obtain ⟨fd_law_label, U_law_label⟩ := c.def_ 3 (d := dd_law_label) rfl
  have U_law_label : FunS K "_law_label" s_law_label (He.ga K "_law_label") fd_law_label := U_law_label
  obtain ⟨fd_law_rows, U_law_rows⟩ := c.def_ 4 (d := dd_law_rows) rfl
  have U_law_rows : FunS K "_law_rows" s_law_rows (He.ga K "_law_rows") fd_law_rows := U_law_rows
  obtain ⟨fd_law_leaf, U_law_leaf⟩ := c.def_ 5 (d := dd_law_leaf) rfl
  have U_law_leaf : FunS K "_law_leaf" s_law_leaf (He.ga K "_law_leaf") fd_law_leaf := U_law_leaf
  obtain ⟨fd_law_grammar, U_law_grammar⟩ := c.def_ 6 (d := dd_law_grammar) rfl
  have U_law_grammar : FunS K "_law_grammar" s_law_grammar (He.ga K "_law_grammar") fd_law_grammar := U_law_grammar
  obtain ⟨fd_law_is_integer, U_law_is_integer⟩ := c.def_ 7 (d := dd_law_is_integer) rfl
  have U_law_is_integer : FunS K "_law_is_integer" s_law_is_integer (He.ga K "_law_is_integer") fd_law_is_integer := U_law_is_integer
  obtain ⟨fd_law_same, U_law_same⟩ := c.def_ 8 (d := dd_law_same) rfl
  have U_law_same : FunS K "_law_same" s_law_same (He.ga K "_law_same") fd_law_same := U_law_same
  obtain ⟨fd_law_cell, U_law_cell⟩ := c.def_ 9 (d := dd_law_cell) rfl
  have U_law_cell : FunS K "_law_cell" s_law_cell (He.ga K "_law_cell") fd_law_cell := U_law_cell
  obtain ⟨fd_law_digits, U_law_digits⟩ := c.def_ 10 (d := dd_law_digits) rfl
  have U_law_digits : FunS K "_law_digits" s_law_digits (He.ga K "_law_digits") fd_law_digits := U_law_digits
  obtain ⟨fd_is_strip, U_is_strip⟩ := c.def_ 11 (d := dd_is_strip) rfl
  have U_is_strip : FunS K "is_strip" s_is_strip (He.ga K "is_strip") fd_is_strip := U_is_strip
  obtain ⟨fd_all_pairs, U_all_pairs⟩ := c.def_ 12 (d := dd_all_pairs) rfl
  have U_all_pairs : FunS K "all_pairs" s_all_pairs (He.ga K "all_pairs") fd_all_pairs := U_all_pairs
  obtain ⟨fd_list_places, U_list_places⟩ := c.def_ 13 (d := dd_list_places) rfl
  have U_list_places : FunS K "list_places" s_list_places (He.ga K "list_places") fd_list_places := U_list_places
  obtain ⟨fd_outline_of_sequence, U_outline_of_sequence⟩ := c.def_ 14 (d := dd_outline_of_sequence) rfl
  have U_outline_of_sequence : FunS K "outline_of_sequence" s_outline_of_sequence (He.ga K "outline_of_sequence") fd_outline_of_sequence := U_outline_of_sequence
  obtain ⟨fd_outline_of_choice, U_outline_of_choice⟩ := c.def_ 15 (d := dd_outline_of_choice) rfl
  have U_outline_of_choice : FunS K "outline_of_choice" s_outline_of_choice (He.ga K "outline_of_choice") fd_outline_of_choice := U_outline_of_choice
  obtain ⟨fd_outline, U_outline⟩ := c.def_ 16 (d := dd_outline) rfl
  have U_outline : FunS K "outline" s_outline (He.ga K "outline") fd_outline := U_outline
  obtain ⟨fd_machine, U_machine⟩ := c.def_ 17 (d := dd_machine) rfl
  have U_machine : FunS K "machine" s_machine (He.ga K "machine") fd_machine := U_machine
  obtain ⟨fd_machines, U_machines⟩ := c.def_ 18 (d := dd_machines) rfl
  have U_machines : FunS K "machines" s_machines (He.ga K "machines") fd_machines := U_machines
  obtain ⟨fd_law_number, U_law_number⟩ := c.def_ 19 (d := dd_law_number) rfl
  have U_law_number : FunS K "_law_number" s_law_number (He.ga K "_law_number") fd_law_number := U_law_number
  obtain ⟨fd_law_empty, U_law_empty⟩ := c.def_ 20 (d := dd_law_empty) rfl
  have U_law_empty : FunS K "_law_empty" s_law_empty (He.ga K "_law_empty") fd_law_empty := U_law_empty
  obtain ⟨fd_law_ends, U_law_ends⟩ := c.def_ 21 (d := dd_law_ends) rfl
  have U_law_ends : FunS K "_law_ends" s_law_ends (He.ga K "_law_ends") fd_law_ends := U_law_ends
  obtain ⟨fd_law_follows, U_law_follows⟩ := c.def_ 22 (d := dd_law_follows) rfl
  have U_law_follows : FunS K "_law_follows" s_law_follows (He.ga K "_law_follows") fd_law_follows := U_law_follows
  obtain ⟨fd_law_machine, U_law_machine⟩ := c.def_ 23 (d := dd_law_machine) rfl
  have U_law_machine : FunS K "_law_machine" s_law_machine (He.ga K "_law_machine") fd_law_machine := U_law_machine
  obtain ⟨fd_law, U_law⟩ := c.def_ 24 (d := dd_law) rfl
  have U_law : FunS K "law" s_law (He.ga K "law") fd_law := U_law
  have e_law_draw : mg "_law_draw" = some (.ref (He.ga K "_law_draw")) := He.glo_ok X G (c.fact 0 (f := .glo "_law_draw") rfl)
  have e_law_place : mg "_law_place" = some (.ref (He.ga K "_law_place")) := He.glo_ok X G (c.fact 1 (f := .glo "_law_place") rfl)
  have e_law_choice : mg "_law_choice" = some (.ref (He.ga K "_law_choice")) := He.glo_ok X G (c.fact 2 (f := .glo "_law_choice") rfl)
  have e_law_label : mg "_law_label" = some (.ref (He.ga K "_law_label")) := He.glo_ok X G (c.fact 3 (f := .glo "_law_label") rfl)
  have e_law_rows : mg "_law_rows" = some (.ref (He.ga K "_law_rows")) := He.glo_ok X G (c.fact 4 (f := .glo "_law_rows") rfl)
  have e_law_leaf : mg "_law_leaf" = some (.ref (He.ga K "_law_leaf")) := He.glo_ok X G (c.fact 5 (f := .glo "_law_leaf") rfl)
  have e_law_grammar : mg "_law_grammar" = some (.ref (He.ga K "_law_grammar")) := He.glo_ok X G (c.fact 6 (f := .glo "_law_grammar") rfl)
  have e_law_is_integer : mg "_law_is_integer" = some (.ref (He.ga K "_law_is_integer")) := He.glo_ok X G (c.fact 7 (f := .glo "_law_is_integer") rfl)
  have e_law_same : mg "_law_same" = some (.ref (He.ga K "_law_same")) := He.glo_ok X G (c.fact 8 (f := .glo "_law_same") rfl)
  have e_law_cell : mg "_law_cell" = some (.ref (He.ga K "_law_cell")) := He.glo_ok X G (c.fact 9 (f := .glo "_law_cell") rfl)
  have e_law_digits : mg "_law_digits" = some (.ref (He.ga K "_law_digits")) := He.glo_ok X G (c.fact 10 (f := .glo "_law_digits") rfl)
  have e_is_strip : mg "is_strip" = some (.ref (He.ga K "is_strip")) := He.glo_ok X G (c.fact 11 (f := .glo "is_strip") rfl)
  have e_all_pairs : mg "all_pairs" = some (.ref (He.ga K "all_pairs")) := He.glo_ok X G (c.fact 12 (f := .glo "all_pairs") rfl)
  have e_list_places : mg "list_places" = some (.ref (He.ga K "list_places")) := He.glo_ok X G (c.fact 13 (f := .glo "list_places") rfl)
  have e_outline_of_sequence : mg "outline_of_sequence" = some (.ref (He.ga K "outline_of_sequence")) := He.glo_ok X G (c.fact 14 (f := .glo "outline_of_sequence") rfl)
  have e_outline_of_choice : mg "outline_of_choice" = some (.ref (He.ga K "outline_of_choice")) := He.glo_ok X G (c.fact 15 (f := .glo "outline_of_choice") rfl)
  have e_outline : mg "outline" = some (.ref (He.ga K "outline")) := He.glo_ok X G (c.fact 16 (f := .glo "outline") rfl)
  have e_machine : mg "machine" = some (.ref (He.ga K "machine")) := He.glo_ok X G (c.fact 17 (f := .glo "machine") rfl)
  have e_machines : mg "machines" = some (.ref (He.ga K "machines")) := He.glo_ok X G (c.fact 18 (f := .glo "machines") rfl)
  have e_law_number : mg "_law_number" = some (.ref (He.ga K "_law_number")) := He.glo_ok X G (c.fact 19 (f := .glo "_law_number") rfl)
  have e_law_empty : mg "_law_empty" = some (.ref (He.ga K "_law_empty")) := He.glo_ok X G (c.fact 20 (f := .glo "_law_empty") rfl)
  have e_law_ends : mg "_law_ends" = some (.ref (He.ga K "_law_ends")) := He.glo_ok X G (c.fact 21 (f := .glo "_law_ends") rfl)
  have e_law_follows : mg "_law_follows" = some (.ref (He.ga K "_law_follows")) := He.glo_ok X G (c.fact 22 (f := .glo "_law_follows") rfl)
  have e_law_machine : mg "_law_machine" = some (.ref (He.ga K "_law_machine")) := He.glo_ok X G (c.fact 23 (f := .glo "_law_machine") rfl)
  have e_law : mg "law" = some (.ref (He.ga K "law")) := He.glo_ok X G (c.fact 24 (f := .glo "law") rfl)
  have m_int : mg "int" = none := He.free_ok X G (c.fact 25 (f := .free "int") rfl)
  have m_len : mg "len" = none := He.free_ok X G (c.fact 26 (f := .free "len") rfl)
  have m_range : mg "range" = none := He.free_ok X G (c.fact 27 (f := .free "range") rfl)
  have m_tuple : mg "tuple" = none := He.free_ok X G (c.fact 28 (f := .free "tuple") rfl)
  have m_bool : mg "bool" = none := He.free_ok X G (c.fact 29 (f := .free "bool") rfl)
  have m_isinstance : mg "isinstance" = none := He.free_ok X G (c.fact 30 (f := .free "isinstance") rfl)
  have m_str : mg "str" = none := He.free_ok X G (c.fact 31 (f := .free "str") rfl)
  have m_sorted : mg "sorted" = none := He.free_ok X G (c.fact 32 (f := .free "sorted") rfl)
  have m_list : mg "list" = none := He.free_ok X G (c.fact 33 (f := .free "list") rfl)
  have F_law_draw : FnD P w K mg base 1 "_law_draw" 2 G_law_draw := fn_dl U_law_draw sc_law_draw e_law_draw bb_law_draw rfl (fun cdv A outer s H E hr => d_law_draw m_int m_len hr)
  have F_law_place : FnD P w K mg base 2 "_law_place" 3 G_law_place := fn_dl U_law_place sc_law_place e_law_place bb_law_place rfl (fun cdv A outer s H E hr => d_law_place F_law_draw (by decide) m_int m_len hr)
  have F_law_choice_ : ∀ n, FnD P w K mg base (n + 2) "_law_choice" 5 (G_law_choice n) := by
    intro n
    induction n with
    | zero => exact fnD_st U_law_choice e_law_choice bb_law_choice rfl
    | succ n ih =>
      rw [show n + 1 + 2 = n + 2 + 1 by omega]
      exact fn_dl U_law_choice sc_law_choice e_law_choice bb_law_choice rfl (fun cdv A outer s H E hr => d_law_choice F_law_draw (by omega) F_law_place (by omega) ih (Nat.le_refl _) m_len m_range m_tuple hr)
  have F_law_choice := F_law_choice_ 6
  have F_law_label : FnD P w K mg base 2 "_law_label" 1 G_law_label := fn_dl U_law_label sc_law_label e_law_label bb_law_label rfl (fun cdv A outer s H E hr => d_law_label F_law_draw (by decide) m_len m_range hr)
  have F_law_rows : FnD P w K mg base 2 "_law_rows" 3 G_law_rows := fn_dl U_law_rows sc_law_rows e_law_rows bb_law_rows rfl (fun cdv A outer s H E hr => d_law_rows F_law_draw (by decide) m_range m_tuple hr)
  have F_law_leaf : FnD P w K mg base 3 "_law_leaf" 2 G_law_leaf := fn_dl U_law_leaf sc_law_leaf e_law_leaf bb_law_leaf rfl (fun cdv A outer s H E hr => d_law_leaf F_law_draw (by decide) F_law_label (by decide) F_law_rows (by decide) hr)
  have F_law_grammar : FnD P w K mg base 9 "_law_grammar" 4 G_law_grammar := fn_dl U_law_grammar sc_law_grammar e_law_grammar bb_law_grammar rfl (fun cdv A outer s H E hr => d_law_grammar F_law_draw (by decide) F_law_choice (by decide) F_law_leaf (by decide) F_law_label (by decide) m_int m_range m_tuple hr)
  have F_law_is_integer : FnD P w K mg base 1 "_law_is_integer" 1 G_law_is_integer := fn_dl U_law_is_integer sc_law_is_integer e_law_is_integer bb_law_is_integer rfl (fun cdv A outer s H E hr => d_law_is_integer m_bool m_int m_isinstance hr)
  have F_law_same_ : ∀ n, FnD P w K mg base (n + 1) "_law_same" 2 (G_law_same n) := by
    intro n
    induction n with
    | zero => exact fnD_st U_law_same e_law_same bb_law_same rfl
    | succ n ih =>
      rw [show n + 1 + 1 = n + 1 + 1 by omega]
      exact fn_dl U_law_same sc_law_same e_law_same bb_law_same rfl (fun cdv A outer s H E hr => d_law_same F_law_is_integer (by omega) ih (Nat.le_refl _) m_bool m_int m_isinstance m_len m_range m_str m_tuple hr)
  have F_law_same := F_law_same_ 10
  have F_law_cell : FnD P w K mg base 1 "_law_cell" 2 G_law_cell := fn_dl U_law_cell sc_law_cell e_law_cell bb_law_cell rfl (fun cdv A outer s H E hr => d_law_cell m_len hr)
  have F_law_digits : FnD P w K mg base 2 "_law_digits" 3 G_law_digits := fn_dl U_law_digits sc_law_digits e_law_digits bb_law_digits rfl (fun cdv A outer s H E hr => d_law_digits F_law_cell (by decide) m_int m_range hr)
  have F_is_strip : FnD P w K mg base 1 "is_strip" 1 G_is_strip := fn_dl U_is_strip sc_is_strip e_is_strip bb_is_strip rfl (fun cdv A outer s H E hr => d_is_strip  hr)
  have F_all_pairs : FnD P w K mg base 1 "all_pairs" 2 G_all_pairs := fn_dl U_all_pairs sc_all_pairs e_all_pairs bb_all_pairs rfl (fun cdv A outer s H E hr => d_all_pairs  hr)
  have F_list_places_ : ∀ n, FnD P w K mg base (n + 0) "list_places" 1 (G_list_places n) := by
    intro n
    induction n with
    | zero => exact fnD_st U_list_places e_list_places bb_list_places rfl
    | succ n ih =>
      rw [show n + 1 + 0 = n + 0 + 1 by omega]
      exact fn_dl U_list_places sc_list_places e_list_places bb_list_places rfl (fun cdv A outer s H E hr => d_list_places ih (Nat.le_refl _) hr)
  have F_list_places := F_list_places_ 6
  have F_outline_ : ∀ n, FnD P w K mg base (2 * n + 6) "outline" 2 (G_outline n) := by
    intro n
    induction n with
    | zero => exact fnD_st U_outline e_outline bb_outline rfl
    | succ n ih =>
      have FR_outline_of_sequence : FnD P w K mg base (2 * n + 6 + 1) "outline_of_sequence" 2 (G_outline_of_sequence (G_outline n)) := fn_dl U_outline_of_sequence sc_outline_of_sequence e_outline_of_sequence bb_outline_of_sequence rfl (fun cdv A outer s H E hr => d_outline_of_sequence ih (by omega) F_all_pairs (by omega) F_list_places (by omega) m_len hr)
      have FR_outline_of_choice : FnD P w K mg base (2 * n + 6 + 1) "outline_of_choice" 2 (G_outline_of_choice (G_outline n)) := fn_dl U_outline_of_choice sc_outline_of_choice e_outline_of_choice bb_outline_of_choice rfl (fun cdv A outer s H E hr => d_outline_of_choice ih (by omega) F_list_places (by omega) m_len hr)
      rw [show 2 * (n + 1) + 6 = 2 * n + 6 + 1 + 1 by omega]
      exact fn_dl U_outline sc_outline e_outline bb_outline rfl (fun cdv A outer s H E hr => d_outline ih (by omega) FR_outline_of_sequence (by omega) FR_outline_of_choice (by omega) F_all_pairs (by omega) hr)
  have F_outline := F_outline_ 6
  have F_machine : FnD P w K mg base 19 "machine" 1 G_machine := fn_dl U_machine sc_machine e_machine bb_machine rfl (fun cdv A outer s H E hr => d_machine F_outline (by decide) F_list_places (by decide) m_len m_range m_sorted m_tuple hr)
  have F_machines : FnD P w K mg base 20 "machines" 1 G_machines := fn_dl U_machines sc_machines e_machines bb_machines rfl (fun cdv A outer s H E hr => d_machines F_is_strip (by decide) F_machine (by decide) m_tuple hr)
  have F_law_number_ : ∀ n, FnD P w K mg base (n + 0) "_law_number" 2 (G_law_number n) := by
    intro n
    induction n with
    | zero => exact fnD_st U_law_number e_law_number bb_law_number rfl
    | succ n ih =>
      rw [show n + 1 + 0 = n + 0 + 1 by omega]
      exact fn_dl U_law_number sc_law_number e_law_number bb_law_number rfl (fun cdv A outer s H E hr => d_law_number ih (Nat.le_refl _) m_len m_tuple hr)
  have F_law_number := F_law_number_ 6
  have F_law_empty_ : ∀ n, FnD P w K mg base (n + 0) "_law_empty" 1 (G_law_empty n) := by
    intro n
    induction n with
    | zero => exact fnD_st U_law_empty e_law_empty bb_law_empty rfl
    | succ n ih =>
      rw [show n + 1 + 0 = n + 0 + 1 by omega]
      exact fn_dl U_law_empty sc_law_empty e_law_empty bb_law_empty rfl (fun cdv A outer s H E hr => d_law_empty ih (Nat.le_refl _) hr)
  have F_law_empty := F_law_empty_ 6
  have F_law_ends_ : ∀ n, FnD P w K mg base (n + 6) "_law_ends" 2 (G_law_ends n) := by
    intro n
    induction n with
    | zero => exact fnD_st U_law_ends e_law_ends bb_law_ends rfl
    | succ n ih =>
      rw [show n + 1 + 6 = n + 6 + 1 by omega]
      exact fn_dl U_law_ends sc_law_ends e_law_ends bb_law_ends rfl (fun cdv A outer s H E hr => d_law_ends ih (Nat.le_refl _) F_law_empty (by omega) m_list hr)
  have F_law_ends := F_law_ends_ 6
  have F_law_follows_ : ∀ n, FnD P w K mg base (n + 12) "_law_follows" 2 (G_law_follows n) := by
    intro n
    induction n with
    | zero => exact fnD_st U_law_follows e_law_follows bb_law_follows rfl
    | succ n ih =>
      rw [show n + 1 + 12 = n + 12 + 1 by omega]
      exact fn_dl U_law_follows sc_law_follows e_law_follows bb_law_follows rfl (fun cdv A outer s H E hr => d_law_follows F_law_ends (by omega) ih (Nat.le_refl _) F_law_empty (by omega) m_len m_range hr)
  have F_law_follows := F_law_follows_ 6
  have F_law_machine : FnD P w K mg base 19 "_law_machine" 1 G_law_machine := fn_dl U_law_machine sc_law_machine e_law_machine bb_law_machine rfl (fun cdv A outer s H E hr => d_law_machine F_law_number (by decide) F_law_follows (by decide) F_law_ends (by decide) F_law_empty (by decide) m_len m_range m_tuple hr)
  have F_law : FnD P w K mg base 21 "law" 1 G_law := fn_dl U_law sc_law e_law bb_law rfl (fun cdv A outer s H E hr => d_law F_law_grammar (by decide) F_law_choice (by decide) F_law_same (by decide) F_law_digits (by decide) F_machines (by decide) F_law_draw (by decide) F_machine (by decide) F_law_machine (by decide) F_is_strip (by decide) hr)
  have F2 : FnOk P w K mg base CX0 21 (He.ga K "law") fd_law ["script"] (spOf K mg 1 (fun ds S => noEx (G_law ds S))) := fn_okS U_law sc_law (fun cdv A outer s H E hr => d_law F_law_grammar (by decide) F_law_choice (by decide) F_law_same (by decide) F_law_digits (by decide) F_machines (by decide) F_law_draw (by decide) F_machine (by decide) F_law_machine (by decide) F_is_strip (by decide) hr)
  exact ⟨_, fd_law, e_law, U_law, F2⟩
def names0 : List PySem.Str := ["is_strip", "list_places", "outline", "all_pairs", "outline_of_sequence", "outline_of_choice", "machine", "machines", "_law_is_integer", "_law_cell", "_law_list_is", "_law_same", "_law_pair_is", "_law_digits", "_law_draw", "_law_rows", "_law_label", "_law_leaf", "_law_place", "_law_choice", "_law_grammar", "_law_number", "_law_empty", "_law_ends", "_law_follows", "_law_machine"]
def namesD : List PySem.Str := names0
abbrev RR : PySem.W.OpenRow := PySem.W.OpenLaw.row PySem.Challenge.rw_surelyread_k09_machines_exact
abbrev hkD : PySem.W.Hook := hookM 4 faD fnsD moreD
theorem runD (w : World) : HandSHeadRun.RunEq RR (PySem.W.view RR.prog [28]) hkD (obM 4 faD fnsD moreD) 6000 namesD w := by
  intro os
  kernel_rfl
end My

namespace My
open PySem PySem.Spec PyProof.Rows L2 DL
/-! ### what is drawn -/
def boxO (dg : List Int) (at_ : Nat) : O := .lst [.p (.list (dg.map .int)), .p (.int at_)]
def drawV (dg : List Int) (at_ : Nat) (many : Int) : Int := (match dg[at_]? with | some d => d | none => (at_ : Int) * 7 + 3) % many
theorem drawV_lt {dg : List Int} {at_ : Nat} {many : Int} (h : 0 < many) : 0 ≤ drawV dg at_ many ∧ drawV dg at_ many < many := by
  unfold drawV
  exact ⟨Int.emod_nonneg _ (by omega), Int.emod_lt_of_pos _ h⟩
theorem clS_nil {k : Nat} : ClS k [] := fun _ h => by cases h
theorem clS_set {k n : Nat} {S : Sto} {o : O} (h : ClS k S) (ho : ClO k o) : ClS k (S.set n o) := fun x hx => by
  rcases List.mem_or_eq_of_mem_set hx with h' | rfl
  · exact h x h'
  · exact ho
theorem clS_app {k : Nat} {S T : Sto} (h : ClS k S) (h2 : ClS k T) : ClS k (S ++ T) := fun x hx => by
  rcases List.mem_append.mp hx with h' | h'
  · exact h x h'
  · exact h2 x h'
theorem clS_one {k : Nat} {o : O} (h : ClO k o) : ClS k [o] := fun x hx => by
  rw [List.mem_singleton.mp hx]
  exact h
theorem clO_box {k : Nat} {dg : List Int} {at_ : Nat} : ClO k (boxO dg at_) := fun d hd => by
  simp at hd
  rcases hd with rfl | rfl <;> trivial
theorem clO_p {k : Nat} {l : List PyData} : ClO k (.lst (l.map .p)) := fun d hd => by
  obtain ⟨p, _, rfl⟩ := List.mem_map.mp hd
  trivial
theorem clD_mono {k k' : Nat} {d : D} (hk : k ≤ k') (q : ClD k d) : ClD k' d := by
  cases d with
  | ob n => exact Nat.lt_of_lt_of_le q hk
  | _ => trivial
theorem clS_mono {k k' : Nat} {S : Sto} (hk : k ≤ k') (h : ClS k S) : ClS k' S := by
  intro o ho
  have q := h o ho
  cases o with
  | lst l => exact fun d hd => clD_mono hk (q d hd)
  | fz l => trivial
  | dic l => exact fun d hd => clD_mono hk (q d hd)
theorem draw_ok {S : Sto} {n : Nat} {dg : List Int} {at_ : Nat} {many : Int} (hs : S[n]? = some (boxO dg at_)) (hm : 0 < many) (hc : ClS 0 S) :
    G_law_draw [.ob n, .int many] S = .ok (.int (drawV dg at_ many)) (S.set n (boxO dg (at_ + 1))) := by
  have hl : n < S.length := (List.getElem?_eq_some_iff.mp hs).1
  refine gB_rt (T := []) ?_ (by simp) (clS_set (clS_mono (Nat.zero_le _) hc) clO_box)
  rw [List.append_nil]
  by_cases h : at_ < dg.length
  · have e : dg[at_]? = some dg[at_] := List.getElem?_eq_getElem h
    simp [B_law_draw, start0, hs, boxO, List.getElem?_set_self hl, drawV, h, e, hm]
  · have e : dg[at_]? = none := List.getElem?_eq_none (by omega)
    simp [B_law_draw, start0, hs, boxO, List.getElem?_set_self hl, drawV, h, e, hm]
theorem cell_ok {S : Sto} {ns : List Int} {k : Nat} (hc : ClS 0 S) : ∃ c : Int, G_law_cell [.scr ns, .int k] S = .ok (.int c) S := by
  by_cases h : k < ns.length
  · have e : ns[k]? = some ns[k] := List.getElem?_eq_getElem h
    refine ⟨ns[k], gB_rt (T := []) ?_ rfl (clS_mono (Nat.zero_le _) hc)⟩
    simp [B_law_cell, start0, h, e]
  · refine ⟨0, gB_rt (T := []) ?_ rfl (clS_mono (Nat.zero_le _) hc)⟩
    simp [B_law_cell, start0, h]
end My

namespace My
open PySem PySem.Spec PyProof.Rows L2 DL
/-! ### the digits of a script -/
noncomputable def d60 : SD := (sIf (asB (eBin gGt (eVar 5) (eC (.int 0)))) (sSeq (sExpr (eMth gApp (eVar 3) (aCons (eBin gMod (eB gToInt (aCons (eVar 5) (aNil))) (eC (.int 1000))) (aNil)))) (sSet 5 (eBin gFdv (eVar 5) (eC (.int 1000))))) (sNil))
noncomputable def d12 : SD := (sSeq (sSet 7 (eBin gMod (eB gToInt (aCons (eBin gAdd (eBin gAdd (eBin gMul (eVar 7) (eC (.int 16807))) (eBin gMul (eC (.int 7)) (eVar 6))) (eC (.int 1))) (aNil))) (eC (.int 2147483647)))) (sExpr (eMth gApp (eVar 3) (aCons (eBin gMod (eB gToInt (aCons (eBin gFdv (eVar 7) (eC (.int 997))) (aNil))) (eC (.int 1000))) (aNil)))))
noncomputable def dgBody (g_law_cell : FD) : SD := (sSeq (sSet 5 (eCall 2 g_law_cell (aCons (eVar 0) (aCons (eVar 4) (aNil))))) (sSeq (sIf (asB (eBin gLt (eVar 5) (eC (.int 0)))) (sSet 5 (eBin gSub (eC (.int 1)) (eBin gMul (eC (.int 2)) (eVar 5)))) (sNil)) (sIf (asB (eBin gGe (eVar 5) (eBin gPow (eC (.int 10)) (eC (.int 18))))) (sFor (iRgA (aCons (eC (.int 60)) (aNil))) (gNm 6) d60) (sSeq (sSet 7 (eBin gMod (eB gToInt (aCons (eBin gAdd (eBin gAdd (eBin gMul (eVar 5) (eC (.int 48271))) (eBin gMul (eVar 4) (eC (.int 69621)))) (eC (.int 11))) (aNil))) (eC (.int 2147483647)))) (sFor (iRgA (aCons (eC (.int 12)) (aNil))) (gNm 6) d12)))))
theorem B_digits_eq (g_law_cell : FD) : B_law_digits g_law_cell = sSeq (sSet 3 (eLstO (aNil))) (sSeq (sFor (iRgB (aCons (eVar 1) (aCons (eVar 2) (aNil)))) (gNm 4) (dgBody g_law_cell)) (sRetR (eVar 3))) := rfl
abbrev dgL (dg : List Int) : O := .lst (dg.map fun d => D.p (.int d))
section
variable {S : Sto} {dg : List Int}
theorem dgL_at : (S ++ [dgL dg])[S.length]? = some (dgL dg) := by simp
theorem dgL_set {b : O} : (S ++ [dgL dg]).set S.length b = S ++ [b] := by simp
theorem dgL_app {d : Int} : O.lst ((dg.map fun d => D.p (.int d)) ++ [D.p (.int d)]) = dgL (dg ++ [d]) := by simp [dgL]
theorem d60_ok {v0 v1 v2 v4 v6 v7 : Option D} {c : Int} (hl : dg.length < 1000000) : ∃ (dg' : List Int) (c' : Int), dg'.length ≤ dg.length + 1 ∧
    d60 [v0, v1, v2, some (.ob S.length), v4, some (.int c), v6, v7] (S ++ [dgL dg]) = .nx [v0, v1, v2, some (.ob S.length), v4, some (.int c'), v6, v7] (S ++ [dgL dg']) := by
  by_cases h : 0 < c
  · refine ⟨dg ++ [c % 1000], c / 1000, by simp, ?_⟩
    have h2 : dg.length < 16777216 := by omega
    simp [d60, h, dgL_at, h2]
  · refine ⟨dg, c, by omega, ?_⟩
    simp [d60, h]
theorem d12_ok {v0 v1 v2 v4 v5 : Option D} {t s : Int} (hl : dg.length < 1000000) : ∃ (dg' : List Int) (s' : Int), dg'.length ≤ dg.length + 1 ∧
    d12 [v0, v1, v2, some (.ob S.length), v4, v5, some (.int t), some (.int s)] (S ++ [dgL dg]) = .nx [v0, v1, v2, some (.ob S.length), v4, v5, some (.int t), some (.int s')] (S ++ [dgL dg']) := by
  have h2 : dg.length < 16777216 := by omega
  exact ⟨dg ++ [(s * 16807 + 7 * t + 1) % 2147483647 / 997 % 1000], (s * 16807 + 7 * t + 1) % 2147483647, by simp, by simp [d12, dgL_at, h2]⟩
theorem d60_all {v0 v1 v2 v4 v6 v7 : Option D} {c : Int} {n : Nat} (hl : dg.length + n < 1000000) : ∃ (dg' : List Int) (v5' v6' : Option D), dg'.length ≤ dg.length + n ∧
    forL (gNm 6) d60 (fun _ => True) (rngL 0 n) [v0, v1, v2, some (.ob S.length), v4, some (.int c), v6, v7] (S ++ [dgL dg]) = .nx [v0, v1, v2, some (.ob S.length), v4, v5', v6', v7] (S ++ [dgL dg']) := by
  obtain ⟨ρ', S', e, dg', c', v6', hl', rfl, rfl⟩ := forL_inv (g := gNm 6) (chk := fun _ => True) (body := d60)
    (fun i ρ S' => ∃ (dg' : List Int) (c' : Int) (v6' : Option D), dg'.length ≤ dg.length + i ∧ S' = S ++ [dgL dg'] ∧ ρ = [v0, v1, v2, some (.ob S.length), v4, some (.int c'), v6', v7]) (rngL 0 n) 0 [v0, v1, v2, some (.ob S.length), v4, some (.int c), v6, v7] (S ++ [dgL dg])
    (fun i d ρ S' hd hI => by
      obtain ⟨hi, rfl⟩ := rngL_get hd
      obtain ⟨dg', c', v6', hl', rfl, rfl⟩ := hI
      obtain ⟨dg2, c2, hl2, e2⟩ := d60_ok (S := S) (dg := dg') (v0 := v0) (v1 := v1) (v2 := v2) (v4 := v4) (v6 := some (.int (0 + i))) (v7 := v7) (c := c') (by omega)
      exact ⟨_, _, rfl, _, _, .inl e2, trivial, dg2, c2, _, by omega, rfl, rfl⟩) ⟨dg, c, v6, by omega, rfl, rfl⟩
  simp only [rngL_length, Nat.zero_add] at hl'
  exact ⟨dg', _, _, hl', e⟩
theorem d12_all {v0 v1 v2 v4 v5 v6 : Option D} {s : Int} {n : Nat} (hl : dg.length + n < 1000000) : ∃ (dg' : List Int) (v6' v7' : Option D), dg'.length ≤ dg.length + n ∧
    forL (gNm 6) d12 (fun _ => True) (rngL 0 n) [v0, v1, v2, some (.ob S.length), v4, v5, v6, some (.int s)] (S ++ [dgL dg]) = .nx [v0, v1, v2, some (.ob S.length), v4, v5, v6', v7'] (S ++ [dgL dg']) := by
  obtain ⟨ρ', S', e, dg', s', v6', hl', rfl, rfl⟩ := forL_inv (g := gNm 6) (chk := fun _ => True) (body := d12)
    (fun i ρ S' => ∃ (dg' : List Int) (s' : Int) (v6' : Option D), dg'.length ≤ dg.length + i ∧ S' = S ++ [dgL dg'] ∧ ρ = [v0, v1, v2, some (.ob S.length), v4, v5, v6', some (.int s')]) (rngL 0 n) 0 [v0, v1, v2, some (.ob S.length), v4, v5, v6, some (.int s)] (S ++ [dgL dg])
    (fun i d ρ S' hd hI => by
      obtain ⟨hi, rfl⟩ := rngL_get hd
      obtain ⟨dg', s', v6', hl', rfl, rfl⟩ := hI
      obtain ⟨dg2, s2, hl2, e2⟩ := d12_ok (S := S) (dg := dg') (v0 := v0) (v1 := v1) (v2 := v2) (v4 := v4) (v5 := v5) (t := 0 + i) (s := s') (by omega)
      exact ⟨_, _, rfl, _, _, .inl e2, trivial, dg2, s2, _, by omega, rfl, rfl⟩) ⟨dg, s, v6, by omega, rfl, rfl⟩
  simp only [rngL_length, Nat.zero_add] at hl'
  exact ⟨dg', _, _, hl', e⟩
theorem big62_60 : big62 60 = true := big62_of (by decide) (by decide)
theorem big62_12 : big62 12 = true := big62_of (by decide) (by decide)
theorem dgBody_ok {ns : List Int} {v1 v2 v5 v6 v7 : Option D} {k : Nat} (hc : ClS 0 S) (hl : dg.length + 60 < 1000000) : ∃ (dg' : List Int) (w5 w6 w7 : Option D), dg'.length ≤ dg.length + 60 ∧
    dgBody G_law_cell [some (.scr ns), v1, v2, some (.ob S.length), some (.int k), v5, v6, v7] (S ++ [dgL dg]) = .nx [some (.scr ns), v1, v2, some (.ob S.length), some (.int k), w5, w6, w7] (S ++ [dgL dg']) := by
  obtain ⟨c, ec⟩ := cell_ok (ns := ns) (k := k) (S := S ++ [dgL dg]) (clS_app hc (clS_one (by unfold dgL; rw [show (dg.map fun d => D.p (.int d)) = (dg.map PyData.int).map .p by simp]; exact clO_p)))
  have step : ∀ c' : Int, ∃ (dg' : List Int) (w5 w6 w7 : Option D), dg'.length ≤ dg.length + 60 ∧
      sIf (asB (eBin gGe (eVar 5) (eBin gPow (eC (.int 10)) (eC (.int 18))))) (sFor (iRgA (aCons (eC (.int 60)) (aNil))) (gNm 6) d60) (sSeq (sSet 7 (eBin gMod (eB gToInt (aCons (eBin gAdd (eBin gAdd (eBin gMul (eVar 5) (eC (.int 48271))) (eBin gMul (eVar 4) (eC (.int 69621)))) (eC (.int 11))) (aNil))) (eC (.int 2147483647)))) (sFor (iRgA (aCons (eC (.int 12)) (aNil))) (gNm 6) d12))
        [some (.scr ns), v1, v2, some (.ob S.length), some (.int k), some (.int c'), v6, v7] (S ++ [dgL dg]) = .nx [some (.scr ns), v1, v2, some (.ob S.length), some (.int k), w5, w6, w7] (S ++ [dgL dg']) := by
    intro c'
    by_cases h : (1000000000000000000 : Int) ≤ c'
    · obtain ⟨dg', w5, w6, l, e⟩ := d60_all (S := S) (dg := dg) (v0 := some (.scr ns)) (v1 := v1) (v2 := v2) (v4 := some (.int k)) (v6 := v6) (v7 := v7) (c := c') (n := 60) (by omega)
      exact ⟨dg', w5, w6, v7, l, by simp [h, big62_60, e]⟩
    · obtain ⟨dg', w6, w7, l, e⟩ := d12_all (S := S) (dg := dg) (v0 := some (.scr ns)) (v1 := v1) (v2 := v2) (v4 := some (.int k)) (v5 := some (.int c')) (v6 := v6) (s := (c' * 48271 + k * 69621 + 11) % 2147483647) (n := 12) (by omega)
      exact ⟨dg', some (.int c'), w6, w7, by omega, by simp [h, big62_12, e]⟩
  by_cases h : c < 0
  · obtain ⟨dg', w5, w6, w7, l, e⟩ := step (1 - 2 * c)
    refine ⟨dg', w5, w6, w7, l, ?_⟩
    rw [← e]
    unfold dgBody
    simp [ec, h]
  · obtain ⟨dg', w5, w6, w7, l, e⟩ := step c
    refine ⟨dg', w5, w6, w7, l, ?_⟩
    rw [← e]
    unfold dgBody
    simp [ec, h]
end
end My

namespace My
open PySem PySem.Spec PyProof.Rows L2 DL
section
variable {S : Sto} {dg : List Int}
theorem pAll_ints : pAll (dg.map fun d => D.p (.int d)) = some (dg.map .int) := by
  rw [show (dg.map fun d => D.p (.int d)) = (dg.map PyData.int).map .p by simp]
  exact pAll_map _
theorem restD_dgL : restD (.ob S.length) (S ++ [dgL dg]) = some (.list (dg.map .int), S ++ [.fz (dg.map .int)]) := by
  show (match (S ++ [dgL dg])[S.length]? with
    | some (.lst l) => (pAll l).map fun l' => (PyData.list l', (S ++ [dgL dg]).set S.length (.fz l'))
    | some (.fz l) => some (.list l, S ++ [dgL dg])
    | _ => none) = _
  rw [dgL_at]
  show (pAll (dg.map fun d => D.p (.int d))).map _ = _
  rw [pAll_ints, Option.map_some, dgL_set]
theorem digits_ok {ns : List Int} {lo hi : Nat} (hc : ClS 0 S) (hh : hi ≤ 1000) (hlo : lo ≤ hi) : ∃ dg : List Int, G_law_digits [.scr ns, .int lo, .int hi] S = .ok (.lst (dg.map .int)) S := by
  obtain ⟨ρ', S', e, dg, v5, v6, v7, v4, hl, rfl, rfl⟩ := forL_inv (g := gNm 4) (chk := fun _ => True) (body := dgBody G_law_cell)
    (fun i ρ S' => ∃ (dg : List Int) (v5 v6 v7 v4 : Option D), dg.length ≤ 60 * i ∧ S' = S ++ [dgL dg] ∧ ρ = [some (.scr ns), some (.int lo), some (.int hi), some (.ob S.length), v4, v5, v6, v7]) (rngL lo (hi - lo)) 0 [some (.scr ns), some (.int lo), some (.int hi), some (.ob S.length), none, none, none, none] (S ++ [dgL []])
    (fun i d ρ S' hd hI => by
      obtain ⟨hi', rfl⟩ := rngL_get hd
      obtain ⟨dg, v5, v6, v7, v4, hl, rfl, rfl⟩ := hI
      obtain ⟨dg2, w5, w6, w7, hl2, e2⟩ := dgBody_ok (S := S) (dg := dg) (ns := ns) (v1 := some (.int lo)) (v2 := some (.int hi)) (v5 := v5) (v6 := v6) (v7 := v7) (k := lo + i) hc (by omega)
      rw [Int.natCast_add] at e2
      exact ⟨_, _, gNm_ap, _, _, .inl e2, trivial, dg2, w5, w6, w7, _, by omega, rfl, rfl⟩) ⟨[], none, none, none, none, by simp, rfl, rfl⟩
  have hb : big62 (lo : Int) = true ∧ big62 (hi : Int) = true := ⟨big62_nat (by omega), big62_nat (by omega)⟩
  have hn : ((hi : Int) - lo).toNat = hi - lo := by omega
  refine ⟨dg, gB_rt (T := [.fz (dg.map .int)]) ?_ rfl (clS_mono (Nat.zero_le _) hc)⟩
  rw [B_digits_eq]
  have e0 : start0 NN_law_digits [.scr ns, .int lo, .int hi] = [some (.scr ns), some (.int lo), some (.int hi), none, none, none, none, none] := rfl
  rw [e0]
  rw [sSeq_ap, sSet_ap, eLstO_ap, aNil_ap]
  simp only [Rs.bind_ok, liftS_ok, seqO_nx, List.length_nil, Nat.zero_le, if_true, List.set_cons_succ, List.set_cons_zero]
  rw [sSeq_ap, sFor_ap, iRgB_ap]
  simp only [aCons_ap, aNil_ap, eVar_ap, List.getElem?_cons_succ, List.getElem?_cons_zero, Option.join_some, oRs_some, Rs.bind_ok, liftS_ok, hb, hn, and_self, if_true]
  rw [show O.lst [] = dgL [] from rfl, e]
  simp only [seqO_nx, sRetR_ap, eVar_ap, List.getElem?_cons_succ, List.getElem?_cons_zero, Option.join_some, oRs_some, liftS_ok, restD_dgL, rtO_some]
end
end My

namespace My
open PySem PySem.Spec PyProof.Rows L2 DL
/-! ### drawn numbers, texts -/
def IsBox (b : O) : Prop := ∃ dg at_, b = boxO dg at_
theorem IsBox.cl {b : O} {k : Nat} (h : IsBox b) : ClO k b := by
  obtain ⟨dg, at_, rfl⟩ := h
  exact clO_box
section
variable {S : Sto} {n : Nat} {b : O} {Q : D → Sto → Prop} {E : Xc → Sto → Prop}
theorem draw_wp {many : Int} (hs : S[n]? = some b) (hb : IsBox b) (hm : 0 < many) (hc : ClS 0 S) (h : ∀ v b', 0 ≤ v → v < many → IsBox b' → Q (.int v) (S.set n b')) : WE (G_law_draw [.ob n, .int many] S) Q E := by
  obtain ⟨dg, at_, rfl⟩ := hb
  obtain ⟨k1, k2⟩ := drawV_lt (dg := dg) (at_ := at_) hm
  exact WE_of (draw_ok hs hm hc) (h _ _ k1 k2 ⟨_, _, rfl⟩)
theorem digits_wp {ns : List Int} {lo hi : Nat} (hc : ClS 0 S) (hh : hi ≤ 1000) (hlo : lo ≤ hi) (h : ∀ dg : List Int, Q (.lst (dg.map .int)) S) : WE (G_law_digits [.scr ns, .int lo, .int hi] S) Q E := by
  obtain ⟨dg, e⟩ := digits_ok (ns := ns) hc hh hlo
  exact WE_of e (h dg)
theorem set_get (hl : n < S.length) {o : O} : (S.set n o)[n]? = some o := List.getElem?_set_self hl
theorem toStr_len {k : Nat} (hk : k < 1000) : (Str.ofString (toString (k : Int))).length ≤ 4 := by
  have e := int_text_length_le10 (a := (k : Int)) (k := 3) (by decide) (by simpa using hk)
  rw [PySem.ofString_length]; exact e
theorem toStr_log {k : Nat} (hk : k < 1000) : ((k : Int).natAbs).log2 < 1920 := by
  have := Nat.log2_le_self k
  simp only [Int.natAbs_natCast]
  omega
/-! ### texts -/
abbrev sx (l : List Nat) : Str := SX.S l
@[simp] theorem sx_len (l : List Nat) : (sx l).length = l.length := by show l.toArray.size = _; simp
@[simp] theorem sx_tl (l : List Nat) : (sx l).cps.toList = l := by simp [SX.S]
theorem joinL_nil : ∀ l : List Nat, TL.joinL [] (l.map fun c => [c]) = l
  | [] => rfl
  | [c] => rfl
  | c :: c2 :: r => by
    show [c] ++ ([] ++ TL.joinL [] ((c2 :: r).map fun c => [c])) = _
    rw [joinL_nil (c2 :: r)]
    rfl
theorem join_chars (l : List Nat) : Txt.join (sx []) (l.map fun c => sx [c]) = sx l := by
  have := SX.join_S [] (l.map fun c => [c])
  rw [List.map_map, joinL_nil] at this
  exact this
theorem strsP_map (l : List Str) : strsP (l.map PyData.str) = some l := by
  induction l with
  | nil => rfl
  | cons x l ih => simp [strsP, ih]
theorem lens_one (l : List Nat) : ((l.map fun c => sx [c]).map (·.length)).sum = l.length := by
  induction l with
  | nil => rfl
  | cons c l ih =>
    rw [List.map_cons, List.map_cons, List.sum_cons, ih, List.length_cons]
    simp
    omega
theorem dotS : (Str.ofString ".#").cps.toList = [46, 35] := by decide +kernel
theorem dotL : (Str.ofString ".#").length = 2 := by decide +kernel
theorem emptyS : Str.ofString "" = sx [] := by decide +kernel
def pixL (cs : List Nat) : Prop := ∀ c ∈ cs, c = 46 ∨ c = 35
abbrev rD (rows : List (List Nat)) : List PyData := rows.map fun r => .str (sx r)
abbrev imgD (rows : List (List Nat)) : PyData := .tuple (rD rows)
def imgOk (wide high : Nat) (rows : List (List Nat)) : Prop := rows.length = high ∧ ∀ r ∈ rows, r.length = wide ∧ pixL r
theorem seqP_lst {S : Sto} {l : List PyData} : seqP S (.p (.list l)) = some l := by
  show vList S (.p (.list l)) = some l
  unfold vList
  simp [lItems, pAll_map]
/-- the join of pixels -/
theorem join_wp {cs : List Nat} {f : ED} {ρ : DL.Env} {S1 S2 : Sto} (e : f ρ S1 = .ok (.lst (cs.map fun c => PyData.str (sx [c]))) S2) (hl : cs.length < 1000000) (q : Q (.str (sx cs)) S2) : WE (eJoin (eC (.str "")) f ρ S1) Q E := by
  refine WE_of (a := .str (sx cs)) (S := S2) ?_ q
  unfold eJoin
  rw [eC_ap, Rs.bind_ok]
  simp only [e, Rs.bind_ok]
  have sp : seqP S2 (.lst (cs.map fun c => PyData.str (sx [c]))) = some ((cs.map fun c => sx [c]).map PyData.str) := by
    rw [seqP_lst, List.map_map]
    rfl
  rw [sp]
  simp only [strsP_map]
  rw [emptyS, join_chars, lens_one, if_pos]
  simp
  omega
theorem join_lc {f : ED} {ρ : DL.Env} {S1 : Sto} (h : WE (f ρ S1) (fun d S2 => ∃ cs : List Nat, cs.length < 1000000 ∧ d = .lst (cs.map fun c => PyData.str (sx [c])) ∧ Q (.str (sx cs)) S2) (fun _ _ => False)) : WE (eJoin (eC (.str "")) f ρ S1) Q E := by
  obtain ⟨d, S2, e, cs, hl, rfl, q⟩ := WE_get h
  exact join_wp e hl q
end
end My

namespace My
open PySem PySem.Spec PyProof.Rows L2 DL
/-! ### expressions with any number of items -/
mutual
inductive Ex where
  | pl (p lo hi c : Nat)
  | sq (l : Its)
  | ch (l : Its)
  | an (a : Ex)
  | so (a : Ex)
  | mb (a : Ex)
inductive Its where
  | nil
  | cons (a : Ex) (l : Its)
end
def Its.toL : Its → List Ex
  | .nil => []
  | .cons a l => a :: l.toL
def Its.ofL : List Ex → Its
  | [] => .nil
  | a :: l => .cons a (Its.ofL l)
theorem Its.to_of : ∀ l : List Ex, (Its.ofL l).toL = l
  | [] => rfl
  | a :: l => by show a :: (Its.ofL l).toL = _; rw [Its.to_of l]
section
variable {P : Ex → Prop} (hpl : ∀ p lo hi c, P (.pl p lo hi c)) (hsq : ∀ l : Its, (∀ a ∈ l.toL, P a) → P (.sq l)) (hch : ∀ l : Its, (∀ a ∈ l.toL, P a) → P (.ch l)) (han : ∀ a, P a → P (.an a)) (hso : ∀ a, P a → P (.so a)) (hmb : ∀ a, P a → P (.mb a))
include hpl hsq hch han hso hmb
mutual
theorem Ex.ind : ∀ e : Ex, P e
  | .pl p lo hi c => hpl p lo hi c
  | .sq l => hsq l (Its.ind l)
  | .ch l => hch l (Its.ind l)
  | .an a => han a (Ex.ind a)
  | .so a => hso a (Ex.ind a)
  | .mb a => hmb a (Ex.ind a)
theorem Its.ind : ∀ l : Its, ∀ a ∈ l.toL, P a
  | .nil, a, h => nomatch h
  | .cons b l, a, h => by
    rcases List.mem_cons.mp (show a ∈ b :: l.toL from h) with e | e
    · rw [e]; exact Ex.ind b
    · exact Its.ind l a e
end
end
mutual
def Ex.py : Ex → PyData
  | .pl p lo hi c => .tuple [.str "place", .int p, .int lo, .int hi, .int c]
  | .sq l => .tuple [.str "sequence", .tuple l.pys]
  | .ch l => .tuple [.str "choice", .tuple l.pys]
  | .an a => .tuple [.str "any", a.py]
  | .so a => .tuple [.str "some", a.py]
  | .mb a => .tuple [.str "maybe", a.py]
def Its.pys : Its → List PyData
  | .nil => []
  | .cons a l => a.py :: l.pys
end
theorem Its.pys_eq : ∀ l : Its, l.pys = l.toL.map Ex.py
  | .nil => rfl
  | .cons a l => by rw [Its.pys, l.pys_eq]; rfl
mutual
def Ex.dep : Ex → Nat
  | .pl .. => 0
  | .sq l => l.dep + 1
  | .ch l => l.dep + 1
  | .an a => a.dep + 1
  | .so a => a.dep + 1
  | .mb a => a.dep + 1
def Its.dep : Its → Nat
  | .nil => 0
  | .cons a l => max a.dep l.dep
end
theorem Its.dep_le : ∀ (l : Its), ∀ a ∈ l.toL, Ex.dep a ≤ l.dep
  | .nil, a, h => nomatch h
  | .cons b l, a, h => by
    rw [Its.dep]
    rcases List.mem_cons.mp (show a ∈ b :: l.toL from h) with e | e
    · rw [e]; omega
    · have := l.dep_le a e; omega
theorem Its.dep_of : ∀ (l : List Ex) (d : Nat), (∀ a ∈ l, Ex.dep a ≤ d) → (Its.ofL l).dep ≤ d
  | [], d, _ => Nat.zero_le _
  | a :: l, d, h => by
    have h1 := h a List.mem_cons_self
    have h2 := Its.dep_of l d fun x hx => h x (List.mem_cons_of_mem _ hx)
    show (Its.cons a (Its.ofL l)).dep ≤ d
    rw [Its.dep]
    omega
mutual
def Ex.cnt : Ex → Nat
  | .pl .. => 1
  | .sq l => l.cnt
  | .ch l => l.cnt
  | .an a => a.cnt
  | .so a => a.cnt
  | .mb a => a.cnt
def Its.cnt : Its → Nat
  | .nil => 0
  | .cons a l => a.cnt + l.cnt
end
abbrev cntL (l : List Ex) : Nat := (l.map Ex.cnt).sum
theorem Its.cnt_eq : ∀ l : Its, l.cnt = cntL l.toL
  | .nil => rfl
  | .cons a l => by rw [Its.cnt, l.cnt_eq]; simp [cntL, Its.toL]
structure Pl4 where
  p : Nat
  lo : Nat
  hi : Nat
  c : Nat
def Pl4.py (x : Pl4) : PyData := (Ex.pl x.p x.lo x.hi x.c).py
mutual
def Ex.plc : Ex → List Pl4
  | .pl p lo hi c => [⟨p, lo, hi, c⟩]
  | .sq l => l.plc
  | .ch l => l.plc
  | .an a => a.plc
  | .so a => a.plc
  | .mb a => a.plc
def Its.plc : Its → List Pl4
  | .nil => []
  | .cons a l => a.plc ++ l.plc
end
theorem Its.plc_eq : ∀ l : Its, l.plc = l.toL.flatMap Ex.plc
  | .nil => rfl
  | .cons a l => by rw [Its.plc, l.plc_eq]; rfl
mutual
theorem Ex.plc_len : ∀ e : Ex, e.plc.length = e.cnt
  | .pl .. => rfl
  | .sq l => l.plc_len
  | .ch l => l.plc_len
  | .an a => a.plc_len
  | .so a => a.plc_len
  | .mb a => a.plc_len
theorem Its.plc_len : ∀ l : Its, l.plc.length = l.cnt
  | .nil => rfl
  | .cons a l => by rw [Its.plc, Its.cnt, List.length_append, a.plc_len, l.plc_len]
end
mutual
def Ex.npy : Ex → Nat → PyData
  | .pl .., k => .tuple [.str "place", .int ((k + 1 : Nat) : Int)]
  | .sq l, k => .tuple [.str "sequence", .tuple (l.npys k)]
  | .ch l, k => .tuple [.str "choice", .tuple (l.npys k)]
  | .an a, k => .tuple [.str "any", a.npy k]
  | .so a, k => .tuple [.str "some", a.npy k]
  | .mb a, k => .tuple [.str "maybe", a.npy k]
def Its.npys : Its → Nat → List PyData
  | .nil, _ => []
  | .cons a l, k => a.npy k :: l.npys (k + a.cnt)
end
/-- items with what is numbered ahead of them -/
def ofs : List Ex → Nat → List (Ex × Nat)
  | [], _ => []
  | a :: l, k => (a, k) :: ofs l (k + a.cnt)
theorem Its.npys_eq : ∀ (l : Its) (k : Nat), l.npys k = (ofs l.toL k).map fun q => q.1.npy q.2
  | .nil, _ => rfl
  | .cons a l, k => by rw [Its.npys, l.npys_eq]; rfl
theorem ofs_len : ∀ (l : List Ex) (k : Nat), (ofs l k).length = l.length
  | [], _ => rfl
  | a :: l, k => by show (ofs l _).length + 1 = _; rw [ofs_len l]; rfl
theorem ofs_at : ∀ (l : List Ex) (k i : Nat) (a : Ex), l[i]? = some a → (ofs l k)[i]? = some (a, k + cntL (l.take i))
  | b :: l, k, 0, a, h => by cases h; rfl
  | b :: l, k, i + 1, a, h => by
    show (ofs l (k + b.cnt))[i]? = _
    rw [ofs_at l (k + b.cnt) i a h, List.take_succ_cons]
    show _ = some (a, k + (b.cnt + cntL (l.take i)))
    rw [Nat.add_assoc]
theorem cntL_snoc {l : List Ex} {i : Nat} {a : Ex} (h : l[i]? = some a) : cntL (l.take (i + 1)) = cntL (l.take i) + a.cnt := by
  rw [List.take_succ, h]
  simp [cntL]
theorem cntL_app (a b : List Ex) : cntL (a ++ b) = cntL a + cntL b := by simp [cntL]
theorem cntL_take (l : List Ex) (i : Nat) : cntL (l.take i) ≤ cntL l := by
  have h := cntL_app (l.take i) (l.drop i)
  rw [List.take_append_drop] at h
  omega
theorem cntL_le {l : List Ex} {i : Nat} {a : Ex} (h : l[i]? = some a) : cntL (l.take i) + a.cnt ≤ cntL l := by
  rw [← cntL_snoc h]
  exact cntL_take l (i + 1)
def prodL (as bs : List Nat) : List (Nat × Nat) := as.flatMap fun a => bs.map fun b => (a, b)
theorem prodL_len (as bs : List Nat) : (prodL as bs).length = as.length * bs.length := by
  unfold prodL
  induction as with
  | nil => simp
  | cons a as ih => simp [List.flatMap_cons, ih, Nat.add_mul, Nat.add_comm]
theorem mem_prodL_iff {as bs : List Nat} {p : Nat × Nat} : p ∈ prodL as bs ↔ p.1 ∈ as ∧ p.2 ∈ bs := by
  unfold prodL
  rw [List.mem_flatMap]
  constructor
  · rintro ⟨a, ha, h⟩
    obtain ⟨b, hb, rfl⟩ := List.mem_map.mp h
    exact ⟨ha, hb⟩
  · rintro ⟨h1, h2⟩
    exact ⟨p.1, h1, List.mem_map.mpr ⟨p.2, h2, rfl⟩⟩
/-- what an outline holds -/
structure Ou where
  b : Bool
  F : List Nat
  L : List Nat
  P : List (Nat × Nat)
def sqS (a o : Ou) : Ou := ⟨a.b && o.b, if a.b = true then a.F ++ o.F else a.F, if o.b = true then a.L ++ o.L else o.L, a.P ++ o.P ++ prodL a.L o.F⟩
def chS (a o : Ou) : Ou := ⟨a.b || o.b, a.F ++ o.F, a.L ++ o.L, a.P ++ o.P⟩
abbrev sq0 : Ou := ⟨true, [], [], []⟩
abbrev ch0 : Ou := ⟨false, [], [], []⟩
mutual
def Ex.out : Ex → Nat → Ou
  | .pl .., k => ⟨false, [k + 1], [k + 1], []⟩
  | .sq l, k => (l.outs k).foldl sqS sq0
  | .ch l, k => (l.outs k).foldl chS ch0
  | .an a, k => ⟨true, (a.out k).F, (a.out k).L, (a.out k).P ++ prodL (a.out k).L (a.out k).F⟩
  | .so a, k => ⟨(a.out k).b, (a.out k).F, (a.out k).L, (a.out k).P ++ prodL (a.out k).L (a.out k).F⟩
  | .mb a, k => ⟨true, (a.out k).F, (a.out k).L, (a.out k).P⟩
def Its.outs : Its → Nat → List Ou
  | .nil, _ => []
  | .cons a l, k => a.out k :: l.outs (k + a.cnt)
end
theorem Its.outs_eq : ∀ (l : Its) (k : Nat), l.outs k = (ofs l.toL k).map fun q => q.1.out q.2
  | .nil, _ => rfl
  | .cons a l, k => by rw [Its.outs, l.outs_eq]; rfl
/-- what an outline's numbers are -/
structure OuOk (k n : Nat) (o : Ou) : Prop where
  F : ∀ b ∈ o.F, k < b ∧ b ≤ k + n
  L : ∀ b ∈ o.L, k < b ∧ b ≤ k + n
  P : ∀ p ∈ o.P, (k < p.1 ∧ p.1 ≤ k + n) ∧ k < p.2 ∧ p.2 ≤ k + n
  s : o.F.Pairwise (· < ·)
  lF : o.F.length ≤ n
  lL : o.L.length ≤ n
theorem sqS_ok {k n m : Nat} {a o : Ou} (ha : OuOk k n a) (ho : OuOk (k + n) m o) : OuOk k (n + m) (sqS a o) := by
  have h1 := ha.F
  have h2 := ha.L
  have h3 := ha.P
  have g1 := ho.F
  have g2 := ho.L
  have g3 := ho.P
  refine ⟨fun b hb => ?_, fun b hb => ?_, fun p hp => ?_, ?_, ?_, ?_⟩
  · show k < b ∧ b ≤ k + (n + m)
    have hb : b ∈ (if a.b = true then a.F ++ o.F else a.F) := hb
    split at hb
    · rcases List.mem_append.mp hb with z | z
      · have := h1 b z; omega
      · have := g1 b z; omega
    · have := h1 b hb; omega
  · show k < b ∧ b ≤ k + (n + m)
    have hb : b ∈ (if o.b = true then a.L ++ o.L else o.L) := hb
    split at hb
    · rcases List.mem_append.mp hb with z | z
      · have := h2 b z; omega
      · have := g2 b z; omega
    · have := g2 b hb; omega
  · have hp : p ∈ a.P ++ o.P ++ prodL a.L o.F := hp
    rcases List.mem_append.mp hp with z | z
    · rcases List.mem_append.mp z with z | z
      · have := h3 p z; omega
      · have := g3 p z; omega
    · obtain ⟨z1, z2⟩ := mem_prodL_iff.mp z
      have := h2 _ z1
      have := g1 _ z2
      omega
  · show (if a.b = true then a.F ++ o.F else a.F).Pairwise _
    split
    · exact List.pairwise_append.mpr ⟨ha.s, ho.s, fun x hx y hy => by have := h1 x hx; have := g1 y hy; omega⟩
    · exact ha.s
  · show (if a.b = true then a.F ++ o.F else a.F).length ≤ n + m
    have := ha.lF
    have := ho.lF
    split
    · rw [List.length_append]; omega
    · omega
  · show (if o.b = true then a.L ++ o.L else o.L).length ≤ n + m
    have := ha.lL
    have := ho.lL
    split
    · rw [List.length_append]; omega
    · omega
theorem chS_ok {k n m : Nat} {a o : Ou} (ha : OuOk k n a) (ho : OuOk (k + n) m o) : OuOk k (n + m) (chS a o) := by
  have h1 := ha.F
  have h2 := ha.L
  have h3 := ha.P
  have g1 := ho.F
  have g2 := ho.L
  have g3 := ho.P
  refine ⟨fun b hb => ?_, fun b hb => ?_, fun p hp => ?_, ?_, ?_, ?_⟩
  · rcases List.mem_append.mp (show b ∈ a.F ++ o.F from hb) with z | z
    · have := h1 b z; omega
    · have := g1 b z; omega
  · rcases List.mem_append.mp (show b ∈ a.L ++ o.L from hb) with z | z
    · have := h2 b z; omega
    · have := g2 b z; omega
  · rcases List.mem_append.mp (show p ∈ a.P ++ o.P from hp) with z | z
    · have := h3 p z; omega
    · have := g3 p z; omega
  · exact List.pairwise_append.mpr ⟨ha.s, ho.s, fun x hx y hy => by have := h1 x hx; have := g1 y hy; omega⟩
  · show (a.F ++ o.F).length ≤ n + m
    have := ha.lF
    have := ho.lF
    rw [List.length_append]; omega
  · show (a.L ++ o.L).length ≤ n + m
    have := ha.lL
    have := ho.lL
    rw [List.length_append]; omega
theorem sq0_ok {k : Nat} : OuOk k 0 sq0 := ⟨(fun _ h => nomatch h), (fun _ h => nomatch h), (fun _ h => nomatch h), List.Pairwise.nil, Nat.le_refl _, Nat.le_refl _⟩
theorem ch0_ok {k : Nat} : OuOk k 0 ch0 := ⟨(fun _ h => nomatch h), (fun _ h => nomatch h), (fun _ h => nomatch h), List.Pairwise.nil, Nat.le_refl _, Nat.le_refl _⟩
mutual
theorem Ex.out_ok : ∀ (e : Ex) (k : Nat), OuOk k e.cnt (e.out k)
  | .pl .., k => ⟨(fun b h => by have := List.mem_singleton.mp (show b ∈ [k + 1] from h); simp only [Ex.cnt]; omega), (fun b h => by have := List.mem_singleton.mp (show b ∈ [k + 1] from h); simp only [Ex.cnt]; omega), (fun _ h => nomatch h), by simp [Ex.out], Nat.le_refl _, Nat.le_refl _⟩
  | .sq l, k => by
    have := Its.sq_ok l k 0 sq0 sq0_ok
    rw [Nat.zero_add] at this
    exact this
  | .ch l, k => by
    have := Its.ch_ok l k 0 ch0 ch0_ok
    rw [Nat.zero_add] at this
    exact this
  | .an a, k => by
    have h := a.out_ok k
    refine ⟨h.F, h.L, fun p hp => ?_, h.s, h.lF, h.lL⟩
    rcases List.mem_append.mp (show p ∈ (a.out k).P ++ prodL (a.out k).L (a.out k).F from hp) with z | z
    · exact h.P p z
    · obtain ⟨z1, z2⟩ := mem_prodL_iff.mp z
      exact ⟨h.L _ z1, h.F _ z2⟩
  | .so a, k => by
    have h := a.out_ok k
    refine ⟨h.F, h.L, fun p hp => ?_, h.s, h.lF, h.lL⟩
    rcases List.mem_append.mp (show p ∈ (a.out k).P ++ prodL (a.out k).L (a.out k).F from hp) with z | z
    · exact h.P p z
    · obtain ⟨z1, z2⟩ := mem_prodL_iff.mp z
      exact ⟨h.L _ z1, h.F _ z2⟩
  | .mb a, k => ⟨(a.out_ok k).F, (a.out_ok k).L, (a.out_ok k).P, (a.out_ok k).s, (a.out_ok k).lF, (a.out_ok k).lL⟩
theorem Its.sq_ok : ∀ (l : Its) (k n : Nat) (acc : Ou), OuOk k n acc → OuOk k (n + l.cnt) ((l.outs (k + n)).foldl sqS acc)
  | .nil, k, n, acc, h => h
  | .cons a l, k, n, acc, h => by
    have h1 := sqS_ok h (a.out_ok (k + n))
    have h2 := Its.sq_ok l k (n + a.cnt) _ h1
    rw [Its.cnt, ← Nat.add_assoc]
    rw [← Nat.add_assoc] at h2
    exact h2
theorem Its.ch_ok : ∀ (l : Its) (k n : Nat) (acc : Ou), OuOk k n acc → OuOk k (n + l.cnt) ((l.outs (k + n)).foldl chS acc)
  | .nil, k, n, acc, h => h
  | .cons a l, k, n, acc, h => by
    have h1 := chS_ok h (a.out_ok (k + n))
    have h2 := Its.ch_ok l k (n + a.cnt) _ h1
    rw [Its.cnt, ← Nat.add_assoc]
    rw [← Nat.add_assoc] at h2
    exact h2
end
end My

namespace My
open PySem PySem.Spec PyProof.Rows L2 DL
/-! words in tuples of words -/
theorem inw {neg : Bool} {k : Str} {l : List PyData} {S : Sto} (h1 : SeqAt.shaped (.str k) = true) (h2 : SeqAt.shaped (.tuple l) = true) : gInA neg (.p (.str k)) (.p (.tuple l)) S = .ok (.bl (neg ^^ l.any fun z => PyData.eqv z (.str k))) S := by
  rw [gInA_of dicO_p, gInT_tup h1 h2]
abbrev L3 : List PyData := [.str "any", .str "some", .str "maybe"]
theorem l3s : SeqAt.shaped (.tuple L3) = true := by decide +kernel
theorem l2s : SeqAt.shaped (.tuple [.str "any", .str "maybe"]) = true := by decide +kernel
theorem l2t : SeqAt.shaped (.tuple [.str "any", .str "some"]) = true := by decide +kernel
theorem l2u : SeqAt.shaped (.tuple [.str "choice", .str "sequence"]) = true := by decide +kernel
theorem ws1 : SeqAt.shaped (.str "place") = true := by decide +kernel
theorem ws2 : SeqAt.shaped (.str "sequence") = true := by decide +kernel
theorem ws3 : SeqAt.shaped (.str "choice") = true := by decide +kernel
theorem ws4 : SeqAt.shaped (.str "any") = true := by decide +kernel
theorem ws5 : SeqAt.shaped (.str "some") = true := by decide +kernel
theorem ws6 : SeqAt.shaped (.str "maybe") = true := by decide +kernel
theorem a1 : (L3.any fun z => PyData.eqv z (.str "place")) = false := by decide +kernel
theorem a2 : (L3.any fun z => PyData.eqv z (.str "sequence")) = false := by decide +kernel
theorem a3 : (L3.any fun z => PyData.eqv z (.str "choice")) = false := by decide +kernel
theorem a4 : (L3.any fun z => PyData.eqv z (.str "any")) = true := by decide +kernel
theorem a5 : (L3.any fun z => PyData.eqv z (.str "some")) = true := by decide +kernel
theorem a6 : (L3.any fun z => PyData.eqv z (.str "maybe")) = true := by decide +kernel
theorem b2 : ([PyData.str "any", .str "maybe"].any fun z => PyData.eqv z (.str "sequence")) = false := by decide +kernel
theorem b3 : ([PyData.str "any", .str "maybe"].any fun z => PyData.eqv z (.str "choice")) = false := by decide +kernel
theorem b4 : ([PyData.str "any", .str "maybe"].any fun z => PyData.eqv z (.str "any")) = true := by decide +kernel
theorem b6 : ([PyData.str "any", .str "maybe"].any fun z => PyData.eqv z (.str "maybe")) = true := by decide +kernel
theorem c1 : ([PyData.str "any", .str "some"].any fun z => PyData.eqv z (.str "place")) = false := by decide +kernel
theorem c2 : ([PyData.str "any", .str "some"].any fun z => PyData.eqv z (.str "sequence")) = false := by decide +kernel
theorem c3 : ([PyData.str "any", .str "some"].any fun z => PyData.eqv z (.str "choice")) = false := by decide +kernel
theorem c4 : ([PyData.str "any", .str "some"].any fun z => PyData.eqv z (.str "any")) = true := by decide +kernel
theorem c5 : ([PyData.str "any", .str "some"].any fun z => PyData.eqv z (.str "some")) = true := by decide +kernel
theorem c6 : ([PyData.str "any", .str "some"].any fun z => PyData.eqv z (.str "maybe")) = false := by decide +kernel
theorem d1 : ([PyData.str "choice", .str "sequence"].any fun z => PyData.eqv z (.str "place")) = false := by decide +kernel
theorem d2 : ([PyData.str "choice", .str "sequence"].any fun z => PyData.eqv z (.str "sequence")) = true := by decide +kernel
theorem d3 : ([PyData.str "choice", .str "sequence"].any fun z => PyData.eqv z (.str "choice")) = true := by decide +kernel
theorem d4 : ([PyData.str "choice", .str "sequence"].any fun z => PyData.eqv z (.str "any")) = false := by decide +kernel
theorem d5 : ([PyData.str "choice", .str "sequence"].any fun z => PyData.eqv z (.str "some")) = false := by decide +kernel
theorem d6 : ([PyData.str "choice", .str "sequence"].any fun z => PyData.eqv z (.str "maybe")) = false := by decide +kernel
theorem e2 : (Str.ofString "sequence" == Str.ofString "place") = false := by decide +kernel
theorem e3 : (Str.ofString "choice" == Str.ofString "place") = false := by decide +kernel
theorem e4 : (Str.ofString "any" == Str.ofString "place") = false := by decide +kernel
theorem e5 : (Str.ofString "some" == Str.ofString "place") = false := by decide +kernel
theorem e6 : (Str.ofString "maybe" == Str.ofString "place") = false := by decide +kernel
theorem f2 : (Str.ofString "sequence" == Str.ofString "some") = false := by decide +kernel
theorem f3 : (Str.ofString "choice" == Str.ofString "some") = false := by decide +kernel
theorem f4 : (Str.ofString "any" == Str.ofString "some") = false := by decide +kernel
theorem f6 : (Str.ofString "maybe" == Str.ofString "some") = false := by decide +kernel
theorem g2 : (Str.ofString "sequence" == Str.ofString "choice") = false := by decide +kernel
theorem h1 : (Str.ofString "place" == Str.ofString "sequence") = false := by decide +kernel
theorem h3 : (Str.ofString "choice" == Str.ofString "sequence") = false := by decide +kernel
theorem h4 : (Str.ofString "any" == Str.ofString "sequence") = false := by decide +kernel
theorem h5 : (Str.ofString "some" == Str.ofString "sequence") = false := by decide +kernel
theorem h6 : (Str.ofString "maybe" == Str.ofString "sequence") = false := by decide +kernel
abbrev dL (ps : List PyData) : O := .lst (ps.map .p)
theorem dL_snoc {ps : List PyData} {p : PyData} : O.lst (ps.map D.p ++ [D.p p]) = dL (ps ++ [p]) := by simp [dL]
abbrev iLs (l : List Nat) : List PyData := l.map fun (k : Nat) => .int k
theorem iLs_app (a b : List Nat) : iLs a ++ iLs b = iLs (a ++ b) := by simp [iLs]
section
variable {S : Sto} {n : Nat} {b : O}
theorem get_set (hl : n < S.length) {o : O} {T : Sto} : (S.set n o ++ T)[n]? = some o := by
  rw [List.getElem?_append_left (by simpa using hl), List.getElem?_set_self hl]
theorem set_app (hl : n < S.length) {o o' : O} {T : Sto} : (S.set n o ++ T).set n o' = S.set n o' ++ T := by
  rw [List.set_append_left _ _ (by simpa using hl), List.set_set]
theorem self_set (hs : S[n]? = some b) : S = S.set n b := by
  have hl : n < S.length := (List.getElem?_eq_some_iff.mp hs).1
  apply List.ext_getElem?
  intro i
  by_cases hi : n = i
  · subst hi
    rw [List.getElem?_set_self hl, hs]
  · rw [List.getElem?_set_ne hi]
end
theorem gToTup_l {l : List PyData} {S : Sto} : gToTup [.p (.list l)] S = .ok (.p (.tuple l)) S := by
  have vl : vList S (.p (.list l)) = some l := rfl
  unfold gToTup
  simp only [vl]
mutual
def Ex.nul : Ex → Bool
  | .pl .. => false
  | .sq l => l.alln
  | .ch l => l.anyn
  | .an _ => true
  | .so a => a.nul
  | .mb _ => true
def Its.alln : Its → Bool
  | .nil => true
  | .cons a l => a.nul && l.alln
def Its.anyn : Its → Bool
  | .nil => false
  | .cons a l => a.nul || l.anyn
end
theorem Its.alln_eq : ∀ l : Its, l.alln = l.toL.all Ex.nul
  | .nil => rfl
  | .cons a l => by rw [Its.alln, l.alln_eq]; rfl
theorem Its.anyn_eq : ∀ l : Its, l.anyn = l.toL.any Ex.nul
  | .nil => rfl
  | .cons a l => by rw [Its.anyn, l.anyn_eq]; rfl
mutual
theorem Ex.out_b : ∀ (e : Ex) (k : Nat), (e.out k).b = e.nul
  | .pl .., _ => rfl
  | .sq l, k => by
    have := Its.sq_b l k sq0
    rw [Bool.true_and] at this
    exact this
  | .ch l, k => by
    have := Its.ch_b l k ch0
    rw [Bool.false_or] at this
    exact this
  | .an a, k => rfl
  | .so a, k => a.out_b k
  | .mb a, k => rfl
theorem Its.sq_b : ∀ (l : Its) (k : Nat) (acc : Ou), ((l.outs k).foldl sqS acc).b = (acc.b && l.alln)
  | .nil, _, acc => by rw [Its.alln, Bool.and_true]; rfl
  | .cons a l, k, acc => by
    have h := Its.sq_b l (k + a.cnt) (sqS acc (a.out k))
    rw [Its.outs, List.foldl_cons, h, Its.alln]
    show (acc.b && (a.out k).b && l.alln) = _
    rw [a.out_b k, Bool.and_assoc]
theorem Its.ch_b : ∀ (l : Its) (k : Nat) (acc : Ou), ((l.outs k).foldl chS acc).b = (acc.b || l.anyn)
  | .nil, _, acc => by rw [Its.anyn, Bool.or_false]; rfl
  | .cons a l, k, acc => by
    have h := Its.ch_b l (k + a.cnt) (chS acc (a.out k))
    rw [Its.outs, List.foldl_cons, h, Its.anyn]
    show (acc.b || (a.out k).b || l.anyn) = _
    rw [a.out_b k, Bool.or_assoc]
end
/-- sequences and choices alike -/
structure Nd (w : Str) (e : Ex) (xs : List Ex) : Prop where
  py : e.py = .tuple [.str w, .tuple (xs.map Ex.py)]
  npy : ∀ k, e.npy k = .tuple [.str w, .tuple ((ofs xs k).map fun q => q.1.npy q.2)]
  plc : e.plc = xs.flatMap Ex.plc
  cnt : e.cnt = cntL xs
  dep : ∀ a ∈ xs, Ex.dep a + 1 ≤ e.dep
  few : xs.length ≤ 100
theorem nd_sq (l : Its) (hf : l.toL.length ≤ 100) : Nd (Str.ofString "sequence") (.sq l) l.toL :=
  ⟨by rw [Ex.py, l.pys_eq], fun k => by rw [Ex.npy, l.npys_eq], by rw [Ex.plc, l.plc_eq], by rw [Ex.cnt, l.cnt_eq], fun a h => by rw [Ex.dep]; have := l.dep_le a h; omega, hf⟩
theorem nd_ch (l : Its) (hf : l.toL.length ≤ 100) : Nd (Str.ofString "choice") (.ch l) l.toL :=
  ⟨by rw [Ex.py, l.pys_eq], fun k => by rw [Ex.npy, l.npys_eq], by rw [Ex.plc, l.plc_eq], by rw [Ex.cnt, l.cnt_eq], fun a h => by rw [Ex.dep]; have := l.dep_le a h; omega, hf⟩
section
variable {S : Sto} {m : Nat} {Q : D → Sto → Prop} {E : Xc → Sto → Prop}
abbrev NumS (m : Nat) (e : Ex) : Prop := ∀ (f : Nat) {S : Sto} {ps : List Pl4} {Q : D → Sto → Prop} {E : Xc → Sto → Prop}, e.dep < f → S[m]? = some (dL (ps.map Pl4.py)) → ClS 0 S → ps.length + e.cnt < 1000000 → Q (.p (e.npy ps.length)) (S.set m (dL ((ps ++ e.plc).map Pl4.py))) → WE (G_law_number f [.p e.py, .ob m] S) Q E
theorem flat_take {α β : Type} {f : α → List β} {l : List α} {i : Nat} {a : α} (h : l[i]? = some a) : (l.take (i + 1)).flatMap f = (l.take i).flatMap f ++ f a := by
  rw [List.take_succ, h]
  simp
theorem plc_take (xs : List Ex) : (xs.flatMap Ex.plc).length = cntL xs := by
  induction xs with
  | nil => rfl
  | cons a l ih => rw [List.flatMap_cons, List.length_append, a.plc_len, ih]; simp [cntL]
theorem num_node {w : Str} {e : Ex} {xs : List Ex} (nd : Nd w e xs) (h1 : (w == Str.ofString "place") = false) (h2 : SeqAt.shaped (.str w) = true) (h3 : (L3.any fun z => PyData.eqv z (.str w)) = false) (H : ∀ a ∈ xs, NumS m a) : NumS m e := by
  intro f S ps Q E hf hp hc hn q
  obtain ⟨f, rfl⟩ : ∃ f', f = f' + 1 := ⟨f - 1, by omega⟩
  have hl : m < S.length := (List.getElem?_eq_some_iff.mp hp).1
  refine WE_def (fun d S' => d = .p (e.npy ps.length) ∧ S' = S.set m (dL ((ps ++ e.plc).map Pl4.py))) ?_ (fun d S' ⟨e1, e2⟩ => ⟨_, S', [], e1, by simp, by rw [e2]; simp, by rw [e2]; exact clS_set hc clO_p, by rw [e2]; exact q⟩)
  rw [show start0 NN_law_number [.p e.py, .ob m] = [some (.p e.py), some (.ob m), none] from rfl]
  unfold B_law_number
  have hne := nd.cnt
  have p0 : ∀ S : Sto, gIx (.p e.py) (.p (.int 0)) S = .ok (.str w) S := fun S => by rw [nd.py]; rfl
  have p1 : ∀ S : Sto, gIx (.p e.py) (.p (.int 1)) S = .ok (.p (.tuple (xs.map Ex.py))) S := fun S => by rw [nd.py]; rfl
  simp -implicitDefEqProofs only [DL.wpW, reduceIte, Nat.reduceAdd, Nat.reduceLeDiff, DL.sFor_ap, p0, h1, inw h2 l3s, h3, p1]
  rw [show wipeE [some (D.p e.py), some (.ob m), none] [2] = [some (D.p e.py), some (.ob m), none] from rfl]
  refine WE_lc (fun i acc S' => acc = ((ofs xs ps.length).take i).map (fun q => q.1.npy q.2) ∧ S' = S.set m (dL ((ps ++ (xs.take i).flatMap Ex.plc).map Pl4.py))) _ 0 _ _ ⟨rfl, ?_⟩ ?_ ?_
  · rw [List.take_zero, List.flatMap_nil, List.append_nil]
    exact self_set hp
  · rintro i d acc S' hd' ⟨rfl, rfl⟩
    rw [List.map_map, List.getElem?_map] at hd'
    cases er : xs[i]? with
    | none => rw [er] at hd'; cases hd'
    | some a =>
      rw [er] at hd'
      cases hd'
      have ha := List.mem_of_getElem? er
      have hle := cntL_le er
      have hdp := nd.dep a ha
      have hpl := plc_take (xs.take i)
      have hoa := ofs_at xs ps.length i a er
      have hlen : (ps ++ (xs.take i).flatMap Ex.plc).length = ps.length + cntL (xs.take i) := by rw [List.length_append, hpl]
      have hil := (List.getElem?_eq_some_iff.mp er).1
      rw [Nat.zero_add, flat_take er, List.take_succ, hoa, ← List.append_assoc]
      simp -implicitDefEqProofs only [DL.wpW, reduceIte, Nat.reduceAdd, Nat.reduceLeDiff, DL.sFor_ap, Function.comp_apply]
      refine H a ha f (ps := ps ++ (xs.take i).flatMap Ex.plc) (by omega) (List.getElem?_set_self hl) (clS_set hc clO_p) (by rw [hlen]; omega) ?_
      simp -implicitDefEqProofs only [DL.wpW, reduceIte, Nat.reduceAdd, Nat.reduceLeDiff, DL.sFor_ap, List.set_set]
      refine ⟨_, _, rfl, ?_, by trivial, ?_, by trivial⟩
      · rw [List.length_map, List.length_take, ofs_len]
        have := nd.few
        omega
      · rw [hlen]; simp
  · rintro acc S' ⟨rfl, rfl⟩
    rw [List.length_map, List.length_map, Nat.zero_add, List.take_length]
    rw [show (ofs xs ps.length).take xs.length = ofs xs ps.length from List.take_of_length_le (by rw [ofs_len]; exact Nat.le_refl _)]
    simp -implicitDefEqProofs only [DL.wpW, reduceIte, Nat.reduceAdd, Nat.reduceLeDiff, DL.sFor_ap, gToTup_l, p0]
    exact ⟨by rw [nd.npy], by rw [nd.plc]⟩
end
end My

namespace My
open PySem PySem.Spec PyProof.Rows L2 DL
mutual
def Ex.fin : Ex → Prop
  | .pl .. => True
  | .sq l => l.toL.length ≤ 100 ∧ l.fin
  | .ch l => l.toL.length ≤ 100 ∧ l.fin
  | .an a => a.fin
  | .so a => a.fin
  | .mb a => a.fin
def Its.fin : Its → Prop
  | .nil => True
  | .cons a l => a.fin ∧ l.fin
end
theorem Its.fin_all : ∀ (l : Its), l.fin → ∀ a ∈ l.toL, Ex.fin a
  | .nil, _, a, h => nomatch h
  | .cons b l, hf, a, h => by
    rw [Its.fin] at hf
    rcases List.mem_cons.mp (show a ∈ b :: l.toL from h) with e | e
    · rw [e]; exact hf.1
    · exact l.fin_all hf.2 a e
theorem Its.fin_of : ∀ (l : List Ex), (∀ a ∈ l, Ex.fin a) → (Its.ofL l).fin
  | [], _ => trivial
  | a :: l, h => by
    show (Its.cons a (Its.ofL l)).fin
    rw [Its.fin]
    exact ⟨h a List.mem_cons_self, Its.fin_of l fun x hx => h x (List.mem_cons_of_mem _ hx)⟩
theorem fin_sq {l : Its} (h : (Ex.sq l).fin) : l.toL.length ≤ 100 ∧ ∀ a ∈ l.toL, Ex.fin a := by
  rw [Ex.fin] at h
  exact ⟨h.1, l.fin_all h.2⟩
theorem fin_ch {l : Its} (h : (Ex.ch l).fin) : l.toL.length ≤ 100 ∧ ∀ a ∈ l.toL, Ex.fin a := by
  rw [Ex.fin] at h
  exact ⟨h.1, l.fin_all h.2⟩
theorem fin_1 {a : Ex} : ((Ex.an a).fin ↔ a.fin) ∧ ((Ex.so a).fin ↔ a.fin) ∧ ((Ex.mb a).fin ↔ a.fin) := by
  simp only [Ex.fin, and_self]
theorem dep_1 {a : Ex} : (Ex.an a).dep = a.dep + 1 ∧ (Ex.so a).dep = a.dep + 1 ∧ (Ex.mb a).dep = a.dep + 1 := by
  simp only [Ex.dep, and_self]
section
variable {S : Sto} {m : Nat} {Q : D → Sto → Prop} {E : Xc → Sto → Prop}
theorem number_wp : ∀ e : Ex, e.fin → NumS m e := by
  refine Ex.ind ?_ ?_ ?_ ?_ ?_ ?_
  · intro p lo hi c _ f S ps Q E hf hp hc hn q
    obtain ⟨f, rfl⟩ : ∃ f', f = f' + 1 := ⟨f - 1, by omega⟩
    have hl : m < S.length := (List.getElem?_eq_some_iff.mp hp).1
    have hL : ps.length < 16777216 := by omega
    refine WE_def (fun d S' => d = .p ((Ex.pl p lo hi c).npy ps.length) ∧ S' = S.set m (dL ((ps ++ (Ex.pl p lo hi c).plc).map Pl4.py))) ?_ (fun d S' ⟨e1, e2⟩ => ⟨_, S', [], e1, by simp, by rw [e2]; simp, by rw [e2]; exact clS_set hc clO_p, by rw [e2]; exact q⟩)
    rw [show start0 NN_law_number [.p (Ex.pl p lo hi c).py, .ob m] = [some (.p (Ex.pl p lo hi c).py), some (.ob m), none] from rfl]
    unfold B_law_number
    have p0 : ∀ S : Sto, gIx (.p (Ex.pl p lo hi c).py) (.p (.int 0)) S = .ok (.str (Str.ofString "place")) S := fun S => rfl
    simp -implicitDefEqProofs only [DL.wpW, reduceIte, Nat.reduceAdd, Nat.reduceLeDiff, DL.sFor_ap, p0, beq_self_eq_true, hp, List.length_map, hL, dL_snoc, List.getElem?_set_self hl]
    exact ⟨by simp [Ex.npy], by simp [Ex.plc, Pl4.py, Ex.py]⟩
  · intro l H hf
    exact num_node (nd_sq l (fin_sq hf).1) e2 ws2 a2 fun a h => H a h ((fin_sq hf).2 a h)
  · intro l H hf
    exact num_node (nd_ch l (fin_ch hf).1) e3 ws3 a3 fun a h => H a h ((fin_ch hf).2 a h)
  · intro a iha hfa f S ps Q E hf hp hc hn q
    obtain ⟨f, rfl⟩ : ∃ f', f = f' + 1 := ⟨f - 1, by omega⟩
    have hdp := (dep_1 (a := a)).1
    refine WE_def (fun d S' => d = .p ((Ex.an a).npy ps.length) ∧ S' = S.set m (dL ((ps ++ (Ex.an a).plc).map Pl4.py))) ?_ (fun d S' ⟨e1, e2⟩ => ⟨_, S', [], e1, by simp, by rw [e2]; simp, by rw [e2]; exact clS_set hc clO_p, by rw [e2]; exact q⟩)
    rw [show start0 NN_law_number [.p (Ex.an a).py, .ob m] = [some (.p (Ex.an a).py), some (.ob m), none] from rfl]
    unfold B_law_number
    have p0 : ∀ S : Sto, gIx (.p (Ex.an a).py) (.p (.int 0)) S = .ok (.str (Str.ofString "any")) S := fun S => rfl
    have p1 : ∀ S : Sto, gIx (.p (Ex.an a).py) (.p (.int 1)) S = .ok (.p a.py) S := fun S => rfl
    simp -implicitDefEqProofs only [DL.wpW, reduceIte, Nat.reduceAdd, Nat.reduceLeDiff, DL.sFor_ap, p0, p1, e4, inw ws4 l3s, a4]
    refine iha (fin_1.1.mp hfa) f (by omega) hp hc hn ?_
    try simp -implicitDefEqProofs only [DL.wpW, reduceIte, Nat.reduceAdd, Nat.reduceLeDiff, DL.sFor_ap]
    exact ⟨by simp [Ex.npy], by simp [Ex.plc]⟩
  · intro a iha hfa f S ps Q E hf hp hc hn q
    obtain ⟨f, rfl⟩ : ∃ f', f = f' + 1 := ⟨f - 1, by omega⟩
    have hdp := (dep_1 (a := a)).2.1
    refine WE_def (fun d S' => d = .p ((Ex.so a).npy ps.length) ∧ S' = S.set m (dL ((ps ++ (Ex.so a).plc).map Pl4.py))) ?_ (fun d S' ⟨e1, e2⟩ => ⟨_, S', [], e1, by simp, by rw [e2]; simp, by rw [e2]; exact clS_set hc clO_p, by rw [e2]; exact q⟩)
    rw [show start0 NN_law_number [.p (Ex.so a).py, .ob m] = [some (.p (Ex.so a).py), some (.ob m), none] from rfl]
    unfold B_law_number
    have p0 : ∀ S : Sto, gIx (.p (Ex.so a).py) (.p (.int 0)) S = .ok (.str (Str.ofString "some")) S := fun S => rfl
    have p1 : ∀ S : Sto, gIx (.p (Ex.so a).py) (.p (.int 1)) S = .ok (.p a.py) S := fun S => rfl
    simp -implicitDefEqProofs only [DL.wpW, reduceIte, Nat.reduceAdd, Nat.reduceLeDiff, DL.sFor_ap, p0, p1, e5, inw ws5 l3s, a5]
    refine iha (fin_1.2.1.mp hfa) f (by omega) hp hc hn ?_
    try simp -implicitDefEqProofs only [DL.wpW, reduceIte, Nat.reduceAdd, Nat.reduceLeDiff, DL.sFor_ap]
    exact ⟨by simp [Ex.npy], by simp [Ex.plc]⟩
  · intro a iha hfa f S ps Q E hf hp hc hn q
    obtain ⟨f, rfl⟩ : ∃ f', f = f' + 1 := ⟨f - 1, by omega⟩
    have hdp := (dep_1 (a := a)).2.2
    refine WE_def (fun d S' => d = .p ((Ex.mb a).npy ps.length) ∧ S' = S.set m (dL ((ps ++ (Ex.mb a).plc).map Pl4.py))) ?_ (fun d S' ⟨e1, e2⟩ => ⟨_, S', [], e1, by simp, by rw [e2]; simp, by rw [e2]; exact clS_set hc clO_p, by rw [e2]; exact q⟩)
    rw [show start0 NN_law_number [.p (Ex.mb a).py, .ob m] = [some (.p (Ex.mb a).py), some (.ob m), none] from rfl]
    unfold B_law_number
    have p0 : ∀ S : Sto, gIx (.p (Ex.mb a).py) (.p (.int 0)) S = .ok (.str (Str.ofString "maybe")) S := fun S => rfl
    have p1 : ∀ S : Sto, gIx (.p (Ex.mb a).py) (.p (.int 1)) S = .ok (.p a.py) S := fun S => rfl
    simp -implicitDefEqProofs only [DL.wpW, reduceIte, Nat.reduceAdd, Nat.reduceLeDiff, DL.sFor_ap, p0, p1, e6, inw ws6 l3s, a6]
    refine iha (fin_1.2.2.mp hfa) f (by omega) hp hc hn ?_
    try simp -implicitDefEqProofs only [DL.wpW, reduceIte, Nat.reduceAdd, Nat.reduceLeDiff, DL.sFor_ap]
    exact ⟨by simp [Ex.npy], by simp [Ex.plc]⟩
/-! ### empty -/
theorem flat_bools (l : List Bool) : (l.map PyData.bool).all flatD = true := by
  rw [List.all_eq_true]
  intro x hx
  obtain ⟨n, _, rfl⟩ := List.mem_map.mp hx
  rfl
theorem inBs {neg c : Bool} {l : List Bool} {S : Sto} : gInA neg (.p (.bool c)) (.p (.list (l.map .bool))) S = .ok (.bl (neg ^^ decide (c ∈ l))) S := by
  rw [gInA_of dicO_p]
  have e : gInT neg (.p (.bool c)) (.p (.list (l.map .bool))) S = (match pNow S (.p (.bool c)), seqP S (.p (.list (l.map .bool))) with
    | some p, some l' => if flatD p = true ∧ l'.all flatD = true then .ok (.bl (neg ^^ l'.any fun z => PyData.eqv z p)) S
        else if (vList S (.p (.list (l.map .bool)))).isSome = true ∧ SeqAt.shaped p = true ∧ SeqAt.shaped (.list l') = true then .ok (.bl (neg ^^ l'.any fun z => PyData.eqv z p)) S else .st
    | _, _ => .st) := rfl
  have e3 : seqP S (.p (.list (l.map .bool))) = some (l.map .bool) := rfl
  have e4 : pNow S (.p (.bool c)) = some (.bool c) := rfl
  have e5 : flatD (.bool c) = true := rfl
  have e6 : ((l.map PyData.bool).any fun z => PyData.eqv z (.bool c)) = decide (c ∈ l) := by
    rw [List.any_map, Bool.eq_iff_iff]
    simp only [List.any_eq_true, Function.comp_apply, decide_eq_true_eq, PyData.eqv]
    constructor
    · rintro ⟨a, h, e⟩
      have : a = c := by simpa using e
      exact this ▸ h
    · intro h; exact ⟨c, h, by simp⟩
  rw [e, e3]
  simp only [e4, e5, flat_bools, and_self, if_true, e6]
abbrev EmpS (e : Ex) : Prop := ∀ (f k : Nat) {S : Sto} {Q : D → Sto → Prop} {E : Xc → Sto → Prop}, e.dep < f → ClS 0 S → Q (.bl e.nul) S → WE (G_law_empty f [.p (e.npy k)] S) Q E
/-- the empties of items -/
theorem emp_items {w : Str} {e : Ex} {xs : List Ex} {k f : Nat} (nd : Nd w e xs) (hf : e.dep < f + 1) (H : ∀ a ∈ xs, EmpS a) (hc : ClS 0 S) (q : Q (.lst ((xs.map Ex.nul).map .bool)) S) {v1 v2 : Option D} :
    WE (eLc (iTpl (eBin gIx (eVar 0) (eC (.int 1)))) (gNm 2) (bYes) (eCall 1 (G_law_empty f) (aCons (eVar 2) (aNil))) [2] [some (.p (e.npy k)), v1, v2] S) Q E := by
  have p1 : ∀ S : Sto, gIx (.p (e.npy k)) (.p (.int 1)) S = .ok (.p (.tuple ((ofs xs k).map fun q => q.1.npy q.2))) S := fun S => by rw [nd.npy]; rfl
  simp -implicitDefEqProofs only [DL.wpW, reduceIte, Nat.reduceAdd, Nat.reduceLeDiff, DL.sFor_ap, p1]
  rw [show wipeE [some (D.p (e.npy k)), v1, v2] [2] = [some (D.p (e.npy k)), v1, none] from rfl]
  refine WE_lc (fun i acc S' => S' = S ∧ acc = ((xs.take i).map Ex.nul).map .bool) _ 0 _ _ ⟨rfl, rfl⟩ ?_ ?_
  · rintro i d acc S' hd' ⟨e1, rfl⟩
    rw [e1]
    clear e1 S'
    rw [List.map_map, List.getElem?_map] at hd'
    cases eo : (ofs xs k)[i]? with
    | none => rw [eo] at hd'; cases hd'
    | some o =>
      have hi : i < xs.length := by have := (List.getElem?_eq_some_iff.mp eo).1; rwa [ofs_len] at this
      have er : xs[i]? = some xs[i] := List.getElem?_eq_getElem hi
      have ha := List.getElem_mem hi
      generalize xs[i] = a at er ha
      have eo2 := ofs_at xs k i a er
      rw [eo2] at hd'
      cases hd'
      have hdp := nd.dep a ha
      rw [Nat.zero_add, List.take_succ, er]
      simp -implicitDefEqProofs only [DL.wpW, reduceIte, Nat.reduceAdd, Nat.reduceLeDiff, DL.sFor_ap, Function.comp_apply]
      refine H a ha f _ (by omega) hc ?_
      try simp -implicitDefEqProofs only [DL.wpW, reduceIte, Nat.reduceAdd, Nat.reduceLeDiff, DL.sFor_ap]
      refine ⟨_, _, rfl, ?_, by trivial, by trivial, by simp⟩
      rw [List.length_map, List.length_map, List.length_take]
      have := nd.few
      omega
  · rintro acc S' ⟨e1, rfl⟩
    rw [e1]
    rw [List.length_map, List.length_map, Nat.zero_add, ofs_len, List.take_length]
    exact q
theorem empty_wp : ∀ e : Ex, e.fin → EmpS e := by
  have z0 : ∀ (e : Ex) (k : Nat), start0 NN_law_empty [.p (e.npy k)] = [some (.p (e.npy k)), none, none] := fun _ _ => rfl
  refine Ex.ind ?_ ?_ ?_ ?_ ?_ ?_
  · intro p lo hi c _ f k S Q E hf hc q
    obtain ⟨f, rfl⟩ : ∃ f', f = f' + 1 := ⟨f - 1, by omega⟩
    refine WE_def (fun d S' => d = .bl (Ex.pl p lo hi c).nul ∧ S' = S) ?_ (fun d S' ⟨e1, e2⟩ => ⟨_, S, [], e1, by rw [e2, List.append_nil], rfl, hc, q⟩)
    rw [z0]
    unfold B_law_empty
    have p0 : ∀ S : Sto, gIx (.p ((Ex.pl p lo hi c).npy k)) (.p (.int 0)) S = .ok (.str (Str.ofString "place")) S := fun S => rfl
    simp -implicitDefEqProofs only [DL.wpW, reduceIte, Nat.reduceAdd, Nat.reduceLeDiff, DL.sFor_ap, p0, beq_self_eq_true]
    exact ⟨by rw [Ex.nul], by trivial⟩
  · intro l H hfi f k S Q E hf hc q
    obtain ⟨f, rfl⟩ : ∃ f', f = f' + 1 := ⟨f - 1, by omega⟩
    have nd := nd_sq l (fin_sq hfi).1
    refine WE_def (fun d S' => d = .bl (Ex.sq l).nul ∧ S' = S) ?_ (fun d S' ⟨e1, e2⟩ => ⟨_, S, [], e1, by rw [e2, List.append_nil], rfl, hc, q⟩)
    rw [z0]
    unfold B_law_empty
    have p0 : ∀ S : Sto, gIx (.p ((Ex.sq l).npy k)) (.p (.int 0)) S = .ok (.str (Str.ofString "sequence")) S := fun S => by rw [nd.npy]; rfl
    refine WS_cut (fun ρ S' => S' = S ∧ ρ = [some (.p ((Ex.sq l).npy k)), none, none]) ?_ ?_
    · simp -implicitDefEqProofs only [DL.wpW, reduceIte, Nat.reduceAdd, Nat.reduceLeDiff, DL.sFor_ap, p0, e2]
      all_goals exact ⟨by trivial, by trivial⟩
    rintro ρ S' ⟨e1, rfl⟩
    rw [e1]
    clear e1 S'
    refine WS_cut (fun ρ S' => S' = S ∧ ρ = [some (.p ((Ex.sq l).npy k)), none, none]) ?_ ?_
    · simp -implicitDefEqProofs only [DL.wpW, reduceIte, Nat.reduceAdd, Nat.reduceLeDiff, DL.sFor_ap, p0, f2]
      all_goals exact ⟨by trivial, by trivial⟩
    rintro ρ S' ⟨e1, rfl⟩
    rw [e1]
    clear e1 S'
    refine WS_cut (fun ρ S' => S' = S ∧ ρ = [some (.p ((Ex.sq l).npy k)), none, none]) ?_ ?_
    · simp -implicitDefEqProofs only [DL.wpW, reduceIte, Nat.reduceAdd, Nat.reduceLeDiff, DL.sFor_ap, p0, inw ws2 l2s, b2]
      all_goals exact ⟨by trivial, by trivial⟩
    rintro ρ S' ⟨e1, rfl⟩
    rw [e1]
    clear e1 S'
    refine WS_cut (fun ρ S' => S' = S ∧ ρ = [some (.p ((Ex.sq l).npy k)), some (.p (.list ((l.toL.map Ex.nul).map .bool))), none]) ?_ ?_
    · rw [sSet_ap, WS_lift]
      exact emp_items nd hf (fun a h => H a h ((fin_sq hfi).2 a h)) hc ⟨rfl, rfl⟩
    rintro ρ S' ⟨e1, rfl⟩
    rw [e1]
    clear e1 S'
    simp -implicitDefEqProofs only [DL.wpW, reduceIte, Nat.reduceAdd, Nat.reduceLeDiff, DL.sFor_ap, p0, g2, inBs]
    refine ⟨?_, by trivial⟩
    rw [Ex.nul, l.alln_eq]
    congr 2
    rw [Bool.eq_iff_iff]
    simp [List.all_eq_true]
  · intro l H hfi f k S Q E hf hc q
    obtain ⟨f, rfl⟩ : ∃ f', f = f' + 1 := ⟨f - 1, by omega⟩
    have nd := nd_ch l (fin_ch hfi).1
    refine WE_def (fun d S' => d = .bl (Ex.ch l).nul ∧ S' = S) ?_ (fun d S' ⟨e1, e2⟩ => ⟨_, S, [], e1, by rw [e2, List.append_nil], rfl, hc, q⟩)
    rw [z0]
    unfold B_law_empty
    have p0 : ∀ S : Sto, gIx (.p ((Ex.ch l).npy k)) (.p (.int 0)) S = .ok (.str (Str.ofString "choice")) S := fun S => by rw [nd.npy]; rfl
    refine WS_cut (fun ρ S' => S' = S ∧ ρ = [some (.p ((Ex.ch l).npy k)), none, none]) ?_ ?_
    · simp -implicitDefEqProofs only [DL.wpW, reduceIte, Nat.reduceAdd, Nat.reduceLeDiff, DL.sFor_ap, p0, e3]
      all_goals exact ⟨by trivial, by trivial⟩
    rintro ρ S' ⟨e1, rfl⟩
    rw [e1]
    clear e1 S'
    refine WS_cut (fun ρ S' => S' = S ∧ ρ = [some (.p ((Ex.ch l).npy k)), none, none]) ?_ ?_
    · simp -implicitDefEqProofs only [DL.wpW, reduceIte, Nat.reduceAdd, Nat.reduceLeDiff, DL.sFor_ap, p0, f3]
      all_goals exact ⟨by trivial, by trivial⟩
    rintro ρ S' ⟨e1, rfl⟩
    rw [e1]
    clear e1 S'
    refine WS_cut (fun ρ S' => S' = S ∧ ρ = [some (.p ((Ex.ch l).npy k)), none, none]) ?_ ?_
    · simp -implicitDefEqProofs only [DL.wpW, reduceIte, Nat.reduceAdd, Nat.reduceLeDiff, DL.sFor_ap, p0, inw ws3 l2s, b3]
      all_goals exact ⟨by trivial, by trivial⟩
    rintro ρ S' ⟨e1, rfl⟩
    rw [e1]
    clear e1 S'
    refine WS_cut (fun ρ S' => S' = S ∧ ρ = [some (.p ((Ex.ch l).npy k)), some (.p (.list ((l.toL.map Ex.nul).map .bool))), none]) ?_ ?_
    · rw [sSet_ap, WS_lift]
      exact emp_items nd hf (fun a h => H a h ((fin_ch hfi).2 a h)) hc ⟨rfl, rfl⟩
    rintro ρ S' ⟨e1, rfl⟩
    rw [e1]
    clear e1 S'
    simp -implicitDefEqProofs only [DL.wpW, reduceIte, Nat.reduceAdd, Nat.reduceLeDiff, DL.sFor_ap, p0, beq_self_eq_true, inBs]
    refine ⟨?_, by trivial⟩
    rw [Ex.nul, l.anyn_eq]
    congr 2
    rw [Bool.eq_iff_iff]
    simp [List.any_eq_true]
  · intro a _ _ f k S Q E hf hc q
    obtain ⟨f, rfl⟩ : ∃ f', f = f' + 1 := ⟨f - 1, by omega⟩
    refine WE_def (fun d S' => d = .bl (Ex.an a).nul ∧ S' = S) ?_ (fun d S' ⟨e1, e2⟩ => ⟨_, S, [], e1, by rw [e2, List.append_nil], rfl, hc, q⟩)
    rw [z0]
    unfold B_law_empty
    have p0 : ∀ S : Sto, gIx (.p ((Ex.an a).npy k)) (.p (.int 0)) S = .ok (.str (Str.ofString "any")) S := fun S => rfl
    simp -implicitDefEqProofs only [DL.wpW, reduceIte, Nat.reduceAdd, Nat.reduceLeDiff, DL.sFor_ap, p0, e4, f4, inw ws4 l2s, b4]
    exact ⟨by rw [Ex.nul], by trivial⟩
  · intro a iha hfa f k S Q E hf hc q
    obtain ⟨f, rfl⟩ : ∃ f', f = f' + 1 := ⟨f - 1, by omega⟩
    have hdp := (dep_1 (a := a)).2.1
    refine WE_def (fun d S' => d = .bl (Ex.so a).nul ∧ S' = S) ?_ (fun d S' ⟨e1, e2⟩ => ⟨_, S, [], e1, by rw [e2, List.append_nil], rfl, hc, q⟩)
    rw [z0]
    unfold B_law_empty
    have p0 : ∀ S : Sto, gIx (.p ((Ex.so a).npy k)) (.p (.int 0)) S = .ok (.str (Str.ofString "some")) S := fun S => rfl
    have p1 : ∀ S : Sto, gIx (.p ((Ex.so a).npy k)) (.p (.int 1)) S = .ok (.p (a.npy k)) S := fun S => rfl
    simp -implicitDefEqProofs only [DL.wpW, reduceIte, Nat.reduceAdd, Nat.reduceLeDiff, DL.sFor_ap, p0, p1, e5, beq_self_eq_true]
    refine iha (fin_1.2.1.mp hfa) f k (by omega) hc ?_
    try simp -implicitDefEqProofs only [DL.wpW, reduceIte, Nat.reduceAdd, Nat.reduceLeDiff, DL.sFor_ap]
    exact ⟨by rw [Ex.nul], by trivial⟩
  · intro a _ _ f k S Q E hf hc q
    obtain ⟨f, rfl⟩ : ∃ f', f = f' + 1 := ⟨f - 1, by omega⟩
    refine WE_def (fun d S' => d = .bl (Ex.mb a).nul ∧ S' = S) ?_ (fun d S' ⟨e1, e2⟩ => ⟨_, S, [], e1, by rw [e2, List.append_nil], rfl, hc, q⟩)
    rw [z0]
    unfold B_law_empty
    have p0 : ∀ S : Sto, gIx (.p ((Ex.mb a).npy k)) (.p (.int 0)) S = .ok (.str (Str.ofString "maybe")) S := fun S => rfl
    simp -implicitDefEqProofs only [DL.wpW, reduceIte, Nat.reduceAdd, Nat.reduceLeDiff, DL.sFor_ap, p0, e6, f6, inw ws6 l2s, b6]
    exact ⟨by rw [Ex.nul], by trivial⟩
end
end My

namespace My
open PySem PySem.Spec PyProof.Rows L2 DL
/-! ### what stands first, last, behind -/
def fsG (g : Ou → List Nat) : List Ou → List Nat
  | [] => []
  | o :: os => g o ++ if o.b = true then fsG g os else []
def lsG : List Ou → List Nat
  | [] => []
  | o :: os => (if os.all Ou.b = true then o.L else []) ++ lsG os
def crP : List Ou → List (Nat × Nat)
  | [] => []
  | o :: os => prodL o.L (fsG Ou.F os) ++ crP os
theorem fold_F : ∀ (os : List Ou) (acc : Ou) (x : Nat), x ∈ (os.foldl sqS acc).F ↔ x ∈ acc.F ∨ (acc.b = true ∧ x ∈ fsG Ou.F os)
  | [], acc, x => by simp [fsG]
  | o :: os, acc, x => by
    rw [List.foldl_cons, fold_F os]
    simp only [sqS, fsG, Bool.and_eq_true, List.mem_append]
    by_cases h1 : acc.b = true
    · by_cases h2 : o.b = true
      · simp [h1, h2, or_assoc]
      · simp [h1, h2]
    · simp [h1]
theorem fold_L : ∀ (os : List Ou) (acc : Ou) (x : Nat), x ∈ (os.foldl sqS acc).L ↔ x ∈ lsG os ∨ (os.all Ou.b = true ∧ x ∈ acc.L)
  | [], acc, x => by simp [lsG]
  | o :: os, acc, x => by
    rw [List.foldl_cons, fold_L os]
    simp only [sqS, lsG, List.all_cons, Bool.and_eq_true, List.mem_append]
    by_cases h1 : os.all Ou.b = true
    · by_cases h2 : o.b = true
      · simp only [h1, h2, if_true, true_and, List.mem_append]
        constructor
        · rintro (z | z | z)
          · exact .inl (.inr z)
          · exact .inr z
          · exact .inl (.inl z)
        · rintro ((z | z) | z)
          · exact .inr (.inr z)
          · exact .inl z
          · exact .inr (.inl z)
      · simp only [h1, h2, if_true, if_false, true_and, false_and, or_false, Bool.false_eq_true]
        exact Or.comm
    · simp [h1]
theorem fold_P : ∀ (os : List Ou) (acc : Ou) (p : Nat × Nat), p ∈ (os.foldl sqS acc).P ↔ p ∈ acc.P ∨ (∃ o ∈ os, p ∈ o.P) ∨ (p.1 ∈ acc.L ∧ p.2 ∈ fsG Ou.F os) ∨ p ∈ crP os
  | [], acc, p => by simp [fsG, crP]
  | o :: os, acc, p => by
    rw [List.foldl_cons, fold_P os]
    simp only [sqS, fsG, crP, List.mem_append, mem_prodL_iff, List.mem_cons]
    by_cases h2 : o.b = true
    · simp only [h2, if_true, List.mem_append]
      constructor
      · rintro (((z | z) | z) | ⟨o', z1, z2⟩ | ⟨z1 | z1, z2⟩ | z)
        · exact .inl z
        · exact .inr (.inl ⟨o, .inl rfl, z⟩)
        · exact .inr (.inr (.inl ⟨z.1, .inl z.2⟩))
        · exact .inr (.inl ⟨o', .inr z1, z2⟩)
        · exact .inr (.inr (.inl ⟨z1, .inr z2⟩))
        · exact .inr (.inr (.inr (.inl ⟨z1, z2⟩)))
        · exact .inr (.inr (.inr (.inr z)))
      · rintro (z | ⟨o', rfl | z1, z2⟩ | ⟨z1, z2 | z2⟩ | ⟨z1, z2⟩ | z)
        · exact .inl (.inl (.inl z))
        · exact .inl (.inl (.inr z2))
        · exact .inr (.inl ⟨o', z1, z2⟩)
        · exact .inl (.inr ⟨z1, z2⟩)
        · exact .inr (.inr (.inl ⟨.inl z1, z2⟩))
        · exact .inr (.inr (.inl ⟨.inr z1, z2⟩))
        · exact .inr (.inr (.inr z))
    · simp only [h2, if_false, Bool.false_eq_true]
      constructor
      · rintro (((z | z) | z) | ⟨o', z1, z2⟩ | ⟨z1, z2⟩ | z)
        · exact .inl z
        · exact .inr (.inl ⟨o, .inl rfl, z⟩)
        · exact .inr (.inr (.inl ⟨z.1, .inl z.2⟩))
        · exact .inr (.inl ⟨o', .inr z1, z2⟩)
        · exact .inr (.inr (.inr (.inl ⟨z1, z2⟩)))
        · exact .inr (.inr (.inr (.inr z)))
      · rintro (z | ⟨o', rfl | z1, z2⟩ | ⟨z1, z2 | z2⟩ | ⟨z1, z2⟩ | z)
        · exact .inl (.inl (.inl z))
        · exact .inl (.inl (.inr z2))
        · exact .inr (.inl ⟨o', z1, z2⟩)
        · exact .inl (.inr ⟨z1, z2⟩)
        · cases z2
        · exact .inr (.inr (.inl ⟨z1, z2⟩))
        · exact .inr (.inr (.inr z))
theorem foldc_F : ∀ (os : List Ou) (acc : Ou) (x : Nat), x ∈ (os.foldl chS acc).F ↔ x ∈ acc.F ∨ ∃ o ∈ os, x ∈ o.F
  | [], acc, x => by simp
  | o :: os, acc, x => by rw [List.foldl_cons, foldc_F os]; simp [chS, or_assoc]
theorem foldc_L : ∀ (os : List Ou) (acc : Ou) (x : Nat), x ∈ (os.foldl chS acc).L ↔ x ∈ acc.L ∨ ∃ o ∈ os, x ∈ o.L
  | [], acc, x => by simp
  | o :: os, acc, x => by rw [List.foldl_cons, foldc_L os]; simp [chS, or_assoc]
theorem foldc_P : ∀ (os : List Ou) (acc : Ou) (p : Nat × Nat), p ∈ (os.foldl chS acc).P ↔ p ∈ acc.P ∨ ∃ o ∈ os, p ∈ o.P
  | [], acc, x => by simp
  | o :: os, acc, x => by rw [List.foldl_cons, foldc_P os]; simp [chS, or_assoc]
theorem fsG_snoc (g : Ou → List Nat) : ∀ (as : List Ou) (o : Ou), fsG g (as ++ [o]) = fsG g as ++ if as.all Ou.b = true then g o else []
  | [], o => by simp [fsG]
  | a :: as, o => by
    show g a ++ (if a.b = true then fsG g (as ++ [o]) else []) = _
    rw [fsG_snoc g as o]
    simp only [fsG, List.all_cons]
    by_cases h : a.b = true <;> simp [h]
theorem rev_last : ∀ (os : List Ou) (x : Nat), x ∈ fsG Ou.L os.reverse ↔ x ∈ lsG os
  | [], x => Iff.rfl
  | o :: os, x => by
    rw [List.reverse_cons, fsG_snoc, List.mem_append, rev_last os]
    simp only [lsG, List.mem_append, List.all_reverse]
    exact Or.comm
theorem fsG_all (g : Ou → List Nat) : ∀ (os : List Ou), os.all Ou.b = true → ∀ x, x ∈ fsG g os ↔ ∃ o ∈ os, x ∈ g o
  | [], _, x => by simp [fsG]
  | o :: os, h, x => by
    rw [List.all_cons, Bool.and_eq_true] at h
    simp only [fsG, h.1, if_true, List.mem_append, fsG_all g os h.2 x]
    simp
theorem fsG_brk (g : Ou → List Nat) : ∀ (os : List Ou) (i : Nat) (o : Ou), os[i]? = some o → o.b = false → (os.take i).all Ou.b = true → ∀ x, x ∈ fsG g os ↔ ∃ o ∈ os.take (i + 1), x ∈ g o
  | a :: os, 0, o, h, hb, _, x => by
    cases h
    simp [fsG, hb]
  | a :: os, i + 1, o, h, hb, ha, x => by
    rw [List.take_succ_cons, List.all_cons, Bool.and_eq_true] at ha
    have ih := fsG_brk g os i o h hb ha.2 x
    rw [List.take_succ_cons]
    simp only [fsG, ha.1, if_true, List.mem_append, ih]
    simp
theorem mem_fsG (g : Ou → List Nat) : ∀ (os : List Ou) (x : Nat), x ∈ fsG g os ↔ ∃ i o, os[i]? = some o ∧ x ∈ g o ∧ (os.take i).all Ou.b = true
  | [], x => by simp [fsG]
  | a :: os, x => by
    have ih := mem_fsG g os x
    simp only [fsG, List.mem_append]
    constructor
    · rintro (z | z)
      · exact ⟨0, a, rfl, z, rfl⟩
      · split at z
        · rename_i hb
          obtain ⟨i, o, h1, h2, h3⟩ := ih.mp z
          exact ⟨i + 1, o, h1, h2, by rw [List.take_succ_cons, List.all_cons, hb, h3]; rfl⟩
        · cases z
    · rintro ⟨i, o, h1, h2, h3⟩
      cases i with
      | zero => cases h1; exact .inl h2
      | succ i =>
        rw [List.take_succ_cons, List.all_cons, Bool.and_eq_true] at h3
        right
        rw [if_pos h3.1]
        exact ih.mpr ⟨i, o, h1, h2, h3.2⟩
theorem mem_crP : ∀ (os : List Ou) (p : Nat × Nat), p ∈ crP os ↔ ∃ i o, os[i]? = some o ∧ p.1 ∈ o.L ∧ p.2 ∈ fsG Ou.F (os.drop (i + 1))
  | [], p => by simp [crP]
  | a :: os, p => by
    have ih := mem_crP os p
    simp only [crP, List.mem_append, mem_prodL_iff, ih]
    constructor
    · rintro (z | ⟨i, o, h1, h2⟩)
      · exact ⟨0, a, rfl, z.1, z.2⟩
      · exact ⟨i + 1, o, h1, h2⟩
    · rintro ⟨i, o, h1, h2, h3⟩
      cases i with
      | zero => cases h1; exact .inl ⟨h2, h3⟩
      | succ i => exact .inr ⟨i, o, h1, h2, h3⟩
abbrev outsL (xs : List Ex) (k : Nat) : List Ou := (ofs xs k).map fun q => q.1.out q.2
theorem out_sq (l : Its) (k : Nat) : (Ex.sq l).out k = (outsL l.toL k).foldl sqS sq0 := by rw [Ex.out, l.outs_eq]
theorem out_ch (l : Its) (k : Nat) : (Ex.ch l).out k = (outsL l.toL k).foldl chS ch0 := by rw [Ex.out, l.outs_eq]
abbrev ed (last : Bool) (o : Ou) : List Nat := if last = true then o.L else o.F
theorem gRevL_ob {n : Nat} {S : Sto} : gRevL (.ob n) [] S = (match oLst S (.ob n) with
    | some (n, l) => .ok .non (S.set n (.lst l.reverse))
    | none => .st) := rfl
theorem lItems_last {S : Sto} {l : List D} : lItems (S ++ [.lst l]) (.ob S.length) = some l := by
  rw [lItems_ob]; simp
theorem lastset {S : Sto} {x y : O} : (S ++ [x]).set S.length y = S ++ [y] := by
  rw [List.set_append_right _ _ (Nat.le_refl _)]; simp
theorem lastget {S : Sto} {x : O} : (S ++ [x])[S.length]? = some x := by simp
theorem toListO {l : List PyData} {S : Sto} : gToListO [.p (.tuple l)] S = .ok (.ob S.length) (S ++ [.lst (l.map .p)]) := rfl
section
variable {S : Sto} {m : Nat} {Q : D → Sto → Prop} {E : Xc → Sto → Prop}
abbrev EndS (e : Ex) : Prop := ∀ (f k : Nat) (last : Bool) {S : Sto} {Q : D → Sto → Prop} {E : Xc → Sto → Prop}, e.dep < f → f ≤ 6 → e.cnt < 100000 → ClS 0 S → (∀ out : List Nat, (∀ b, b ∈ out ↔ b ∈ ed last (e.out k)) → out.length ≤ e.cnt → Q (.p (.list (iLs out))) S) → WE (G_law_ends f [.p (e.npy k), .bl last] S) Q E
abbrev nps (ys : List (Ex × Nat)) : List PyData := ys.map fun q => q.1.npy q.2
abbrev yo (ys : List (Ex × Nat)) : List Ou := ys.map fun q => q.1.out q.2
abbrev cy (ys : List (Ex × Nat)) : Nat := (ys.map fun q => q.1.cnt).sum
theorem cy_snoc {ys : List (Ex × Nat)} {i : Nat} {q : Ex × Nat} (h : ys[i]? = some q) : cy (ys.take (i + 1)) = cy (ys.take i) + q.1.cnt := by
  rw [List.take_succ, h]; simp [cy]
theorem cy_app (a b : List (Ex × Nat)) : cy (a ++ b) = cy a + cy b := by simp [cy]
theorem cy_le (ys : List (Ex × Nat)) (i : Nat) : cy (ys.take i) ≤ cy ys := by
  have h := cy_app (ys.take i) (ys.drop i)
  rw [List.take_append_drop] at h
  omega
noncomputable def enIn (f : Nat) : SD := (sSeq (sSet 2 (eBin gAdd (eVar 2) (eCall 2 (G_law_ends f) (aCons (eVar 4) (aCons (eVar 1) (aNil)))))) (sIf (bAnd (asB (eBin (gEq false) (eBin gIx (eVar 0) (eC (.int 0))) (eC (.str "sequence")))) (bNot (bTru (eCall 1 (G_law_empty 6) (aCons (eVar 4) (aNil)))))) (sBrk) (sNil)))
abbrev EN (t : PyData) (last : Bool) (v2 v3 v4 : Option D) : DL.Env := [some (.p t), some (.bl last), v2, v3, v4]
/-- the loop over the items, in either order -/
theorem ends_loop {w : Str} {t : PyData} {f n : Nat} {last : Bool} {ys : List (Ex × Nat)} {sq : Bool} (p0 : ∀ S : Sto, gIx (.p t) (.p (.int 0)) S = .ok (.str w) S) (hw : (w == Str.ofString "sequence") = sq) (hf6 : f < 6) (hd : ∀ q ∈ ys, Ex.dep q.1 < f) (hfin : ∀ q ∈ ys, Ex.fin q.1) (hcn : cy ys < 100000) (H : ∀ q ∈ ys, EndS q.1) (hc : ClS 0 S) (hn : n = S.length) :
    WS (forL (gNm 4) (enIn f) (chkOf (.ob n) ((nps ys).map .p)) ((nps ys).map .p) (EN t last (some (.p (.list (iLs [])))) (some (.ob n)) none) (S ++ [.lst ((nps ys).map .p)]))
      ⟨fun ρ S' => S' = S ++ [.lst ((nps ys).map .p)] ∧ ∃ out v4, (∀ x, x ∈ out ↔ if sq = true then x ∈ fsG (ed last) (yo ys) else ∃ o ∈ yo ys, x ∈ ed last o) ∧ List.length out ≤ cy ys ∧ ρ = EN t last (some (.p (.list (iLs out)))) (some (.ob n)) v4, fun _ _ => False, fun _ _ => False, fun _ _ => False, fun _ _ _ => False⟩ := by
  subst hn
  have hc2 : ClS 0 (S ++ [.lst ((nps ys).map .p)]) := clS_app hc (clS_one clO_p)
  have ck : chkOf (.ob S.length) ((nps ys).map .p) (S ++ [.lst ((nps ys).map .p)]) := lItems_last
  refine WS_for (fun i ρ S' => S' = S ++ [.lst ((nps ys).map .p)] ∧ ∃ out v4, (∀ x, x ∈ out ↔ ∃ o ∈ yo (ys.take i), x ∈ ed last o) ∧ (sq = true → (yo (ys.take i)).all Ou.b = true) ∧ List.length out ≤ cy (ys.take i) ∧ ρ = EN t last (some (.p (.list (iLs out)))) (some (.ob S.length)) v4) _ 0 _ _ ⟨rfl, [], none, (fun x => by simp), (fun _ => rfl), Nat.le_refl _, rfl⟩ ?_ ?_
  · rintro i d ρ S' hd' ⟨e1, out, v4, h1, h2, h3, rfl⟩
    rw [e1]
    clear e1 S'
    rw [List.map_map, List.getElem?_map] at hd'
    cases er : ys[i]? with
    | none => rw [er] at hd'; cases hd'
    | some q =>
      rw [er] at hd'
      cases hd'
      have hq := List.mem_of_getElem? er
      have hcs := cy_snoc er
      have hcl := cy_le ys (i + 1)
      rw [Nat.zero_add] at h1 h2 h3 ⊢
      unfold enIn
      simp only [gNm_ap, WE_ok, List.set_cons_succ, List.set_cons_zero, Function.comp_apply]
      refine WS_cut (fun ρ S' => S' = S ++ [.lst ((nps ys).map .p)] ∧ ∃ out2 : List Nat, (∀ b, b ∈ out2 ↔ b ∈ ed last (q.1.out q.2)) ∧ out2.length ≤ q.1.cnt ∧ ρ = EN t last (some (.p (.list (iLs (out ++ out2))))) (some (.ob S.length)) (some (.p (q.1.npy q.2)))) ?_ ?_
      · simp -implicitDefEqProofs only [DL.wpW, reduceIte, Nat.reduceAdd, Nat.reduceLeDiff, DL.sFor_ap]
        refine H q hq f q.2 last (hd q hq) (by omega) (by omega) hc2 fun out2 g1 g2 => ?_
        have hz : out.length + out2.length ≤ 16777216 := by omega
        simp -implicitDefEqProofs only [DL.wpW, reduceIte, Nat.reduceAdd, Nat.reduceLeDiff, DL.sFor_ap, List.length_map, hz, iLs_app]
        exact ⟨by trivial, out2, g1, g2, by rfl⟩
      rintro ρ S' ⟨e1, out2, g1, g2, rfl⟩
      rw [e1]
      clear e1 S'
      have hm : ∀ x, x ∈ out ++ out2 ↔ ∃ o ∈ yo (ys.take (i + 1)), x ∈ ed last o := fun x => by
        rw [List.mem_append, h1, g1, List.take_succ, er]
        simp only [Option.toList_some, List.map_append, List.mem_append, List.map_cons, List.map_nil, List.mem_singleton]
        constructor
        · rintro (⟨o, z1, z2⟩ | z)
          · exact ⟨o, .inl z1, z2⟩
          · exact ⟨_, .inr rfl, z⟩
        · rintro ⟨o, z1 | z1, z2⟩
          · exact .inl ⟨o, z1, z2⟩
          · rw [z1] at z2; exact .inr z2
      have hlen : (out ++ out2).length ≤ cy (ys.take (i + 1)) := by rw [List.length_append]; omega
      cases sq with
      | false =>
        simp -implicitDefEqProofs only [DL.wpW, reduceIte, Nat.reduceAdd, Nat.reduceLeDiff, DL.sFor_ap, p0, hw]
        exact ⟨ck, by trivial, _, _, hm, (fun z => nomatch z), hlen, rfl⟩
      | true =>
        have h2 := h2 rfl
        simp -implicitDefEqProofs only [DL.wpW, reduceIte, Nat.reduceAdd, Nat.reduceLeDiff, DL.sFor_ap, p0, hw]
        refine empty_wp q.1 (hfin q hq) 6 q.2 (by have := hd q hq; omega) hc2 ?_
        have hb := q.1.out_b q.2
        cases hnl : q.1.nul with
        | true =>
          simp -implicitDefEqProofs only [DL.wpW, reduceIte, Nat.reduceAdd, Nat.reduceLeDiff, DL.sFor_ap, hnl]
          refine ⟨ck, by trivial, _, _, hm, (fun _ => ?_), hlen, rfl⟩
          rw [List.take_succ, er]
          simp only [Option.toList_some, List.map_append, List.all_append, h2, List.map_cons, List.map_nil, List.all_cons, List.all_nil, hb, hnl, Bool.and_self]
        | false =>
          simp -implicitDefEqProofs only [DL.wpW, reduceIte, Nat.reduceAdd, Nat.reduceLeDiff, DL.sFor_ap, hnl]
          refine ⟨by trivial, _, _, fun x => ?_, Nat.le_trans hlen hcl, rfl⟩
          rw [hm, fsG_brk (ed last) (yo ys) i (q.1.out q.2) (by rw [List.getElem?_map, er]; rfl) (by rw [hb, hnl]) (by rw [← List.map_take]; exact h2), ← List.map_take]
  · rintro ρ S' ⟨e1, out, v4, h1, h2, h3, rfl⟩
    rw [List.length_map, List.length_map, Nat.zero_add, List.take_length] at h1 h2 h3
    refine ⟨e1, out, v4, fun x => ?_, h3, rfl⟩
    cases sq with
    | false => rw [if_neg (by decide)]; exact h1 x
    | true => rw [if_pos rfl, fsG_all _ _ (h2 rfl)]; exact h1 x
end
end My

namespace My
open PySem PySem.Spec PyProof.Rows L2 DL
theorem cy_ofs : ∀ (xs : List Ex) (k : Nat), cy (ofs xs k) = cntL xs
  | [], _ => rfl
  | a :: xs, k => by
    show a.cnt + cy (ofs xs (k + a.cnt)) = _
    rw [cy_ofs xs]
    simp [cntL]
theorem mem_ofs : ∀ (xs : List Ex) (k : Nat) (q : Ex × Nat), q ∈ ofs xs k → q.1 ∈ xs
  | a :: xs, k, q, h => by
    rcases List.mem_cons.mp (show q ∈ (a, k) :: ofs xs (k + a.cnt) from h) with e | e
    · rw [e]; exact List.mem_cons_self
    · exact List.mem_cons_of_mem _ (mem_ofs xs _ q e)
theorem cy_rev (ys : List (Ex × Nat)) : cy ys.reverse = cy ys := by
  simp [cy]
section
variable {S : Sto} {m : Nat} {Q : D → Sto → Prop} {E : Xc → Sto → Prop}
theorem ends_node {w : Str} {e : Ex} {xs : List Ex} {sq : Bool} (nd : Nd w e xs) (h1 : (w == Str.ofString "place") = false) (h2 : SeqAt.shaped (.str w) = true) (h3 : (L3.any fun z => PyData.eqv z (.str w)) = false) (hw : (w == Str.ofString "sequence") = sq)
    (hfin : ∀ a ∈ xs, Ex.fin a) (hout : ∀ (k : Nat) (last : Bool) (x : Nat), x ∈ ed last (e.out k) ↔ if sq = true then x ∈ fsG (ed last) (yo (if last = true then (ofs xs k).reverse else ofs xs k)) else ∃ o ∈ outsL xs k, x ∈ ed last o) (H : ∀ a ∈ xs, EndS a) : EndS e := by
  intro f k last S Q E hf hf6 hcn hc q
  obtain ⟨f, rfl⟩ : ∃ f', f = f' + 1 := ⟨f - 1, by omega⟩
  have hcne := nd.cnt
  refine WE_def (fun d S' => ∃ out : List Nat, (∀ b, b ∈ out ↔ b ∈ ed last (e.out k)) ∧ out.length ≤ e.cnt ∧ d = .p (.list (iLs out)) ∧ ∃ T, S' = S ++ T) ?_ (fun d S' ⟨out, g1, g2, e1, T, e2⟩ => ⟨_, S, T, e1, e2, rfl, hc, q out g1 g2⟩)
  rw [show start0 NN_law_ends [.p (e.npy k), .bl last] = EN (e.npy k) last none none none from rfl]
  unfold B_law_ends
  have p0 : ∀ S : Sto, gIx (.p (e.npy k)) (.p (.int 0)) S = .ok (.str w) S := fun S => by rw [nd.npy]; rfl
  have p1 : ∀ S : Sto, gIx (.p (e.npy k)) (.p (.int 1)) S = .ok (.p (.tuple (nps (ofs xs k)))) S := fun S => by rw [nd.npy]; rfl
  refine WS_cut (fun ρ S' => S' = S ∧ ρ = EN (e.npy k) last none none none) ?_ ?_
  · simp -implicitDefEqProofs only [DL.wpW, reduceIte, Nat.reduceAdd, Nat.reduceLeDiff, DL.sFor_ap, p0, h1]
    all_goals exact ⟨by trivial, by trivial⟩
  rintro ρ S' ⟨e1, rfl⟩
  rw [e1]
  clear e1 S'
  refine WS_cut (fun ρ S' => S' = S ∧ ρ = EN (e.npy k) last none none none) ?_ ?_
  · simp -implicitDefEqProofs only [DL.wpW, reduceIte, Nat.reduceAdd, Nat.reduceLeDiff, DL.sFor_ap, p0, inw h2 l3s, h3]
    all_goals exact ⟨by trivial, by trivial⟩
  rintro ρ S' ⟨e1, rfl⟩
  rw [e1]
  clear e1 S'
  refine WS_cut (fun ρ S' => S' = S ∧ ρ = EN (e.npy k) last (some (.p (.list (iLs [])))) none none) ?_ ?_
  · simp -implicitDefEqProofs only [DL.wpW, reduceIte, Nat.reduceAdd, Nat.reduceLeDiff, DL.sFor_ap]
    all_goals exact ⟨by trivial, by trivial⟩
  rintro ρ S' ⟨e1, rfl⟩
  rw [e1]
  clear e1 S'
  refine WS_cut (fun ρ S' => S' = S ++ [.lst ((nps (ofs xs k)).map .p)] ∧ ρ = EN (e.npy k) last (some (.p (.list (iLs [])))) (some (.ob S.length)) none) ?_ ?_
  · simp -implicitDefEqProofs only [DL.wpW, reduceIte, Nat.reduceAdd, Nat.reduceLeDiff, DL.sFor_ap, p1, toListO]
    all_goals exact ⟨by trivial, by trivial⟩
  rintro ρ S' ⟨rfl, rfl⟩
  have hys : ∀ q ∈ (if last = true then (ofs xs k).reverse else ofs xs k), q.1 ∈ xs := fun q hq => by
    split at hq
    · exact mem_ofs xs k q (List.mem_reverse.mp hq)
    · exact mem_ofs xs k q hq
  have hcy : cy (if last = true then (ofs xs k).reverse else ofs xs k) = cntL xs := by
    split
    · rw [cy_rev, cy_ofs]
    · rw [cy_ofs]
  have hor : ∀ x, (∃ o ∈ outsL xs k, x ∈ ed last o) ↔ ∃ o ∈ yo (if last = true then (ofs xs k).reverse else ofs xs k), x ∈ ed last o := fun x => by
    split
    · simp only [List.map_reverse, List.mem_reverse]
    · exact Iff.rfl
  have hout := hout k last
  refine WS_cut (fun ρ S' => S' = S ++ [.lst ((nps (if last = true then (ofs xs k).reverse else ofs xs k)).map .p)] ∧ ρ = EN (e.npy k) last (some (.p (.list (iLs [])))) (some (.ob S.length)) none) ?_ ?_
  · cases last with
    | true =>
      simp -implicitDefEqProofs only [DL.wpW, reduceIte, Nat.reduceAdd, Nat.reduceLeDiff, DL.sFor_ap, lastget, gRevL_ob, lastset]
      refine ⟨?_, by trivial⟩
      simp [List.map_reverse]
    | false =>
      simp -implicitDefEqProofs only [DL.wpW, reduceIte, Nat.reduceAdd, Nat.reduceLeDiff, DL.sFor_ap]
      all_goals exact ⟨by trivial, by trivial⟩
  rintro ρ S' ⟨rfl, rfl⟩
  generalize (if last = true then (ofs xs k).reverse else ofs xs k) = ys at hys hcy hor hout ⊢
  have liv := lItems_last (S := S) (l := (nps ys).map .p)
  refine WS_cut (fun ρ S' => S' = S ++ [.lst ((nps ys).map .p)] ∧ ∃ out v4, (∀ x, x ∈ out ↔ if sq = true then x ∈ fsG (ed last) (yo ys) else ∃ o ∈ yo ys, x ∈ ed last o) ∧ List.length out ≤ cy ys ∧ ρ = EN (e.npy k) last (some (.p (.list (iLs out)))) (some (.ob S.length)) v4) ?_ ?_
  · simp -implicitDefEqProofs only [DL.wpW, reduceIte, Nat.reduceAdd, Nat.reduceLeDiff, DL.sFor_ap, liv]
    exact WS_mono (ends_loop (f := f) p0 hw (by omega) (fun q hq => by have := nd.dep _ (hys q hq); omega) (fun q hq => hfin _ (hys q hq)) (by omega) (fun q hq => H _ (hys q hq)) hc rfl) (fun _ _ h => h) (fun _ _ z => z.elim) (fun _ _ z => z.elim) (fun _ _ z => z.elim) (fun _ _ _ z => z.elim)
  rintro ρ S' ⟨rfl, out, v4, g1, g2, rfl⟩
  simp -implicitDefEqProofs only [DL.wpW, reduceIte, Nat.reduceAdd, Nat.reduceLeDiff, DL.sFor_ap]
  refine ⟨out, fun b => ?_, by omega, rfl, _, rfl⟩
  rw [g1, hout]
  cases sq with
  | true => simp only [if_true]
  | false => simp only [if_false, Bool.false_eq_true]; exact (hor b).symm
theorem ends_wp : ∀ e : Ex, e.fin → EndS e := by
  have one : ∀ (a e : Ex) (w : Str), (∀ k, e.npy k = .tuple [.str w, a.npy k]) → (w == Str.ofString "place") = false → SeqAt.shaped (.str w) = true → (L3.any fun z => PyData.eqv z (.str w)) = true → e.dep = a.dep + 1 → e.cnt = a.cnt → (∀ k last, ed last (e.out k) = ed last (a.out k)) → EndS a → EndS e := by
    intro a e w hnp h1 h2 h3 hdp hcn hed H f k last S Q E hf hf6 hcn2 hc q
    obtain ⟨f, rfl⟩ : ∃ f', f = f' + 1 := ⟨f - 1, by omega⟩
    refine WE_def (fun d S' => ∃ out : List Nat, (∀ b, b ∈ out ↔ b ∈ ed last (e.out k)) ∧ out.length ≤ e.cnt ∧ d = .p (.list (iLs out)) ∧ S' = S) ?_ (fun d S' ⟨out, g1, g2, e1, e2⟩ => ⟨_, S, [], e1, by rw [e2, List.append_nil], rfl, hc, q out g1 g2⟩)
    rw [show start0 NN_law_ends [.p (e.npy k), .bl last] = EN (e.npy k) last none none none from rfl]
    unfold B_law_ends
    have p0 : ∀ S : Sto, gIx (.p (e.npy k)) (.p (.int 0)) S = .ok (.str w) S := fun S => by rw [hnp]; rfl
    have p1 : ∀ S : Sto, gIx (.p (e.npy k)) (.p (.int 1)) S = .ok (.p (a.npy k)) S := fun S => by rw [hnp]; rfl
    refine WS_cut (fun ρ S' => S' = S ∧ ρ = EN (e.npy k) last none none none) ?_ ?_
    · simp -implicitDefEqProofs only [DL.wpW, reduceIte, Nat.reduceAdd, Nat.reduceLeDiff, DL.sFor_ap, p0, h1]
      all_goals exact ⟨by trivial, by trivial⟩
    rintro ρ S' ⟨e1, rfl⟩
    rw [e1]
    clear e1 S'
    simp -implicitDefEqProofs only [DL.wpW, reduceIte, Nat.reduceAdd, Nat.reduceLeDiff, DL.sFor_ap, p0, inw h2 l3s, h3, p1]
    refine H f k last (by omega) (by omega) (by omega) hc fun out g1 g2 => ?_
    try simp -implicitDefEqProofs only [DL.wpW, reduceIte, Nat.reduceAdd, Nat.reduceLeDiff, DL.sFor_ap]
    exact ⟨out, (fun b => by rw [g1, hed]), by omega, by trivial, by trivial⟩
  refine Ex.ind ?_ ?_ ?_ ?_ ?_ ?_
  · intro p lo hi c _ f k last S Q E hf hf6 hcn hc q
    obtain ⟨f, rfl⟩ : ∃ f', f = f' + 1 := ⟨f - 1, by omega⟩
    refine WE_def (fun d S' => d = .p (.list (iLs [k + 1])) ∧ S' = S) ?_ (fun d S' ⟨e1, e2⟩ => ⟨_, S, [], e1, by rw [e2, List.append_nil], rfl, hc, q [k + 1] (fun b => by cases last <;> exact Iff.rfl) (Nat.le_refl _)⟩)
    rw [show start0 NN_law_ends [.p ((Ex.pl p lo hi c).npy k), .bl last] = EN ((Ex.pl p lo hi c).npy k) last none none none from rfl]
    unfold B_law_ends
    have p0 : ∀ S : Sto, gIx (.p ((Ex.pl p lo hi c).npy k)) (.p (.int 0)) S = .ok (.str (Str.ofString "place")) S := fun S => rfl
    have p1 : ∀ S : Sto, gIx (.p ((Ex.pl p lo hi c).npy k)) (.p (.int 1)) S = .ok (.p (.int ((k + 1 : Nat) : Int))) S := fun S => rfl
    simp -implicitDefEqProofs only [DL.wpW, reduceIte, Nat.reduceAdd, Nat.reduceLeDiff, DL.sFor_ap, p0, p1, beq_self_eq_true]
    exact ⟨by trivial, by trivial⟩
  · intro l H hfi
    refine ends_node (nd_sq l (fin_sq hfi).1) e2 ws2 a2 (beq_self_eq_true _) (fin_sq hfi).2 (fun k last x => ?_) fun a h => H a h ((fin_sq hfi).2 a h)
    rw [if_pos rfl, out_sq]
    cases last with
    | true =>
      show x ∈ (List.foldl sqS sq0 (outsL l.toL k)).L ↔ x ∈ fsG Ou.L (yo (ofs l.toL k).reverse)
      rw [fold_L]
      have : yo (ofs l.toL k).reverse = (outsL l.toL k).reverse := by simp [List.map_reverse]
      rw [this, rev_last]
      simp
    | false =>
      show x ∈ (List.foldl sqS sq0 (outsL l.toL k)).F ↔ x ∈ fsG Ou.F (yo (ofs l.toL k))
      rw [fold_F]
      simp
  · intro l H hfi
    refine ends_node (nd_ch l (fin_ch hfi).1) e3 ws3 a3 h3 (fin_ch hfi).2 (fun k last x => ?_) fun a h => H a h ((fin_ch hfi).2 a h)
    rw [if_neg (by decide), out_ch]
    cases last with
    | true =>
      show x ∈ (List.foldl chS ch0 (outsL l.toL k)).L ↔ ∃ o ∈ outsL l.toL k, x ∈ o.L
      rw [foldc_L]
      simp
    | false =>
      show x ∈ (List.foldl chS ch0 (outsL l.toL k)).F ↔ ∃ o ∈ outsL l.toL k, x ∈ o.F
      rw [foldc_F]
      simp
  · intro a iha hfi
    exact one a (.an a) (Str.ofString "any") (fun k => by rw [Ex.npy]) e4 ws4 a4 dep_1.1 (by rw [Ex.cnt]) (fun k last => by cases last <;> rw [Ex.out]) (iha (fin_1.1.mp hfi))
  · intro a iha hfi
    exact one a (.so a) (Str.ofString "some") (fun k => by rw [Ex.npy]) e5 ws5 a5 dep_1.2.1 (by rw [Ex.cnt]) (fun k last => by cases last <;> rw [Ex.out]) (iha (fin_1.2.1.mp hfi))
  · intro a iha hfi
    exact one a (.mb a) (Str.ofString "maybe") (fun k => by rw [Ex.npy]) e6 ws6 a6 dep_1.2.2 (by rw [Ex.cnt]) (fun k last => by cases last <;> rw [Ex.out]) (iha (fin_1.2.2.mp hfi))
end
end My

namespace My
open PySem PySem.Spec PyProof.Rows L2 DL
/-! ### what stands behind one another, by the law -/
def pD (p : Nat × Nat) : PyData := .tuple [.int p.1, .int p.2]
abbrev prO (l : List (Nat × Nat)) : O := dL (l.map pD)
abbrev Qn (M : DL.Env → Sto → Prop) : Wn := ⟨M, fun _ _ => False, fun _ _ => False, fun _ _ => False, fun _ _ _ => False⟩
abbrev FE (t : PyData) (m : Nat) (v2 v3 v4 v5 v6 : Option D) : DL.Env := [some (.p t), some (.ob m), v2, v3, v4, v5, v6]
abbrev MemL (E1 : ED) (t : PyData) (m : Nat) (v3 v4 v6 : Option D) (A : List Nat) (n : Nat) : Prop := ∀ (S : Sto) (Q : D → Sto → Prop) (E : Xc → Sto → Prop) (v2 v5 : Option D), ClS 0 S → (∀ out : List Nat, (∀ x, x ∈ out ↔ x ∈ A) → out.length ≤ n → Q (.p (.list (iLs out))) S) → WE (E1 (FE t m v2 v3 v4 v5 v6) S) Q E
section
variable {S : Sto} {m : Nat} {Q : D → Sto → Prop} {E : Xc → Sto → Prop}
theorem pr_snoc {l : List (Nat × Nat)} {a b : Nat} : O.lst ((l.map pD).map D.p ++ [D.p (.tuple [.int a, .int b])]) = prO (l ++ [(a, b)]) := by simp [dL, pD]
theorem prod_wp {E1 E2 : ED} {t : PyData} {A B : List Nat} {na nb : Nat} {v2 v3 v4 v5 v6 : Option D} {ps : List (Nat × Nat)} (hm : m < S.length) (hc : ClS 0 S) (hlen : ps.length + na * nb < 1000000) (h1 : MemL E1 t m v3 v4 v6 A na) (h2 : MemL E2 t m v3 v4 v6 B nb) :
    WS (sFor (iLst E1) (gNm 2) (sFor (iLst E2) (gNm 5) (sExpr (eMth gApp (eVar 1) (aCons (eTup (aCons (eVar 2) (aCons (eVar 5) (aNil)))) (aNil))))) (FE t m v2 v3 v4 v5 v6) (S.set m (prO ps)))
      (Qn fun ρ S' => ∃ X v2 v5, (∀ p, p ∈ X ↔ p.1 ∈ A ∧ p.2 ∈ B) ∧ List.length X ≤ na * nb ∧ S' = S.set m (prO (ps ++ X)) ∧ ρ = FE t m v2 v3 v4 v5 v6) := by
  have cl : ∀ {l : List (Nat × Nat)}, ClS 0 (S.set m (prO l)) := clS_set hc clO_p
  have at1 : ∀ l : List (Nat × Nat), (S.set m (prO l))[m]? = some (prO l) := fun l => List.getElem?_set_self hm
  simp -implicitDefEqProofs only [DL.wpW, reduceIte, Nat.reduceAdd, Nat.reduceLeDiff, DL.sFor_ap]
  refine h1 _ _ _ _ _ cl fun as ha hla => ?_
  try simp -implicitDefEqProofs only [DL.wpW, reduceIte, Nat.reduceAdd, Nat.reduceLeDiff, DL.sFor_ap]
  have hmul : ∀ i, i ≤ as.length → i * nb ≤ na * nb := fun i hi => Nat.mul_le_mul_right _ (by omega)
  refine WS_for (fun i ρ S' => ∃ X v2 v5, (∀ p, p ∈ X ↔ p.1 ∈ as.take i ∧ p.2 ∈ B) ∧ List.length X ≤ i * nb ∧ S' = S.set m (prO (ps ++ X)) ∧ ρ = FE t m v2 v3 v4 v5 v6) _ 0 _ _ ⟨[], v2, v5, (fun p => by simp), Nat.zero_le _, by rw [List.append_nil], rfl⟩ ?_ ?_
  · rintro i d ρ S' hd ⟨X, w2, w5, g1, g2, rfl, rfl⟩
    rw [List.map_map, List.getElem?_map] at hd
    cases ea : as[i]? with
    | none => rw [ea] at hd; cases hd
    | some a =>
      rw [ea] at hd
      cases hd
      have hi := (List.getElem?_eq_some_iff.mp ea).1
      have hm1 := hmul (i + 1) hi
      have hsm : (i + 1) * nb = i * nb + nb := Nat.succ_mul i nb
      rw [Nat.zero_add] at g1 g2 ⊢
      simp -implicitDefEqProofs only [DL.wpW, reduceIte, Nat.reduceAdd, Nat.reduceLeDiff, DL.sFor_ap, Function.comp_apply]
      refine h2 _ _ _ _ _ cl fun bs hb hlb => ?_
      try simp -implicitDefEqProofs only [DL.wpW, reduceIte, Nat.reduceAdd, Nat.reduceLeDiff, DL.sFor_ap]
      refine WS_for (fun j ρ S' => ∃ X2 v5, (∀ p, p ∈ X2 ↔ p ∈ X ∨ (p.1 = a ∧ p.2 ∈ bs.take j)) ∧ List.length X2 ≤ i * nb + j ∧ S' = S.set m (prO (ps ++ X2)) ∧ ρ = FE t m (some (.int (a : Nat))) v3 v4 v5 v6) _ 0 _ _ ⟨X, w5, (fun p => by simp), g2, rfl, rfl⟩ ?_ ?_
      · rintro j d ρ S' hd ⟨X2, w5, k1, k2, rfl, rfl⟩
        rw [List.map_map, List.getElem?_map] at hd
        cases eb : bs[j]? with
        | none => rw [eb] at hd; cases hd
        | some b =>
          rw [eb] at hd
          cases hd
          have hj := (List.getElem?_eq_some_iff.mp eb).1
          rw [Nat.zero_add] at k1 k2 ⊢
          have hL : (ps ++ X2).length < 16777216 := by rw [List.length_append]; omega
          have at2 := at1 (ps ++ X2)
          simp -implicitDefEqProofs only [DL.wpW, reduceIte, Nat.reduceAdd, Nat.reduceLeDiff, DL.sFor_ap, Function.comp_apply, at2, List.length_map, hL, List.set_set, pr_snoc]
          refine ⟨by trivial, X2 ++ [(a, b)], _, fun p => ?_, by simp; omega, by rw [List.append_assoc], rfl⟩
          rw [List.mem_append, k1, List.take_succ, eb, List.mem_append]
          simp only [List.mem_singleton, Option.toList_some, Prod.ext_iff]
          constructor
          · rintro ((z | z) | z)
            · exact .inl z
            · exact .inr ⟨z.1, .inl z.2⟩
            · exact .inr ⟨z.1, .inr z.2⟩
          · rintro (z | ⟨z1, z2 | z2⟩)
            · exact .inl (.inl z)
            · exact .inl (.inr ⟨z1, z2⟩)
            · exact .inr ⟨z1, z2⟩
      · rintro ρ S' ⟨X2, w5, k1, k2, rfl, rfl⟩
        rw [List.length_map, List.length_map, Nat.zero_add] at k1 k2
        rw [List.take_length] at k1
        refine ⟨by trivial, X2, _, _, fun p => ?_, by omega, rfl, rfl⟩
        rw [k1, g1, List.take_succ, ea, List.mem_append, hb]
        simp only [Option.toList_some, List.mem_singleton]
        constructor
        · rintro (⟨z1, z2⟩ | ⟨z1, z2⟩)
          · exact ⟨.inl z1, z2⟩
          · exact ⟨.inr z1, z2⟩
        · rintro ⟨z1 | z1, z2⟩
          · exact .inl ⟨z1, z2⟩
          · exact .inr ⟨z1, z2⟩
  · rintro ρ S' ⟨X, w2, w5, g1, g2, rfl, rfl⟩
    rw [List.length_map, List.length_map, Nat.zero_add] at g1 g2
    rw [List.take_length] at g1
    exact ⟨X, _, _, fun p => by rw [g1, ha], Nat.le_trans g2 (hmul _ (Nat.le_refl _)), rfl, rfl⟩
abbrev FB (e : Ex) : Nat := e.cnt * e.cnt * (e.dep + 1)
abbrev FolS (m : Nat) (e : Ex) : Prop := ∀ (f k : Nat) {S : Sto} {ps : List (Nat × Nat)} {Q : D → Sto → Prop} {E : Xc → Sto → Prop}, e.dep < f → f ≤ 6 → e.cnt < 1000 → S[m]? = some (prO ps) → ClS 0 S → ps.length + FB e < 1000000 →
  (∀ X : List (Nat × Nat), (∀ p, p ∈ X ↔ p ∈ (e.out k).P) → X.length ≤ FB e → Q .non (S.set m (prO (ps ++ X)))) → WE (G_law_follows f [.p (e.npy k), .ob m] S) Q E
theorem npsAt {ys : List (Ex × Nat)} {i : Nat} {q : Ex × Nat} (h : ys[i]? = some q) {S : Sto} : gIx (.p (.tuple (nps ys))) (.p (.int (i : Nat))) S = .ok (.p (q.1.npy q.2)) S := by
  rw [gIx_tup, atI_nat', List.getElem?_map, h]
  rfl
theorem cutL_nat {α : Type} (l : List α) {a b : Nat} (h : a ≤ b) (hb : b ≤ l.length) : cutL l (some (a : Int)) (some (b : Int)) = (l.take b).drop a := by
  unfold cutL
  rw [HT.sIx_nat, HT.sIx_nat, Nat.min_eq_left (show a ≤ l.length by omega), Nat.min_eq_left hb, List.drop_take]
/-- all items between are empty -/
theorem btw_ap {t : PyData} {ys : List (Ex × Nat)} {i j f : Nat} {v2 v5 v3 : Option D} (p1 : ∀ S : Sto, gIx (.p t) (.p (.int 1)) S = .ok (.p (.tuple (nps ys))) S) (hij : i < j) (hj : j ≤ ys.length) (hl : ys.length ≤ 100) (hd : ∀ q ∈ ys, Ex.dep q.1 < 6) (hfin : ∀ q ∈ ys, Ex.fin q.1) (hc : ClS 0 S)
    {Q : Bool → Sto → Prop} {E : Xc → Sto → Prop} (q : Q (((yo ys).take j).drop (i + 1) |>.all Ou.b) S) :
    WE ((bOr (asB (eBin (gEq false) (eVar 6) (eBin gAdd (eVar 4) (eC (.int 1))))) (asB (eBin (gInA true) (eC (.bool false)) (eLc (iTpl (eSl (eBin gIx (eVar 0) (eC (.int 1))) (oSome (eBin gAdd (eVar 4) (eC (.int 1)))) (oSome (eVar 6)))) (gNm 3) (bYes) (eCall 1 (G_law_empty 6) (aCons (eVar 3) (aNil))) [3])))) (FE t m v2 v3 (some (.int (i : Nat))) v5 (some (.int (j : Nat)))) S) Q E := by
  have e1 : (i : Int) + 1 = ((i + 1 : Nat) : Int) := by omega
  by_cases h : j = i + 1
  · have eb : ((j : Int) == ((i + 1 : Nat) : Int)) = true := by rw [h]; exact beq_self_eq_true _
    have hz : (((yo ys).take j).drop (i + 1)).all Ou.b = true := by
      rw [List.drop_of_length_le (by rw [List.length_take]; omega)]
      rfl
    rw [hz] at q
    simp -implicitDefEqProofs only [DL.wpW, reduceIte, Nat.reduceAdd, Nat.reduceLeDiff, DL.sFor_ap, e1, eb]
    exact q
  · have eb : ((j : Int) == ((i + 1 : Nat) : Int)) = false := beq_eq_false_iff_ne.mpr (by omega)
    have gs : ∀ S : Sto, gSl (.p (.tuple (nps ys))) (some ((i + 1 : Nat) : Int)) (some (j : Int)) S = .ok (.p (.tuple (nps ((ys.take j).drop (i + 1))))) S := fun S => by
      show Rs.ok (D.tup (cutL (nps ys) (some ((i + 1 : Nat) : Int)) (some (j : Int)))) S = _
      rw [cutL_nat (nps ys) (by omega) (by rw [List.length_map]; exact hj), ← List.map_take, ← List.map_drop]
    have hsub : ∀ q ∈ (ys.take j).drop (i + 1), q ∈ ys := fun q hq => List.mem_of_mem_take (List.mem_of_mem_drop hq)
    have hln : ((ys.take j).drop (i + 1)).length ≤ 100 := by rw [List.length_drop, List.length_take]; omega
    rw [← List.map_take, ← List.map_drop] at q
    generalize (ys.take j).drop (i + 1) = zs at gs hsub hln q
    simp -implicitDefEqProofs only [DL.wpW, reduceIte, Nat.reduceAdd, Nat.reduceLeDiff, DL.sFor_ap, e1, eb, p1, gs]
    rw [show wipeE (FE t m v2 v3 (some (.int (i : Nat))) v5 (some (.int (j : Nat)))) [3] = FE t m v2 none (some (.int (i : Nat))) v5 (some (.int (j : Nat))) from rfl]
    refine WE_lc (fun u acc S' => S' = S ∧ acc = (((zs.take u).map fun q => q.1.nul).map .bool)) _ 0 _ _ ⟨rfl, rfl⟩ ?_ ?_
    · rintro u d acc S' hd' ⟨e1, rfl⟩
      rw [e1]
      clear e1 S'
      rw [List.map_map, List.getElem?_map] at hd'
      cases er : zs[u]? with
      | none => rw [er] at hd'; cases hd'
      | some z =>
        rw [er] at hd'
        cases hd'
        have hz := hsub z (List.mem_of_getElem? er)
        rw [Nat.zero_add, List.take_succ, er]
        simp -implicitDefEqProofs only [DL.wpW, reduceIte, Nat.reduceAdd, Nat.reduceLeDiff, DL.sFor_ap, Function.comp_apply]
        refine empty_wp z.1 (hfin z hz) 6 z.2 (hd z hz) hc ?_
        try simp -implicitDefEqProofs only [DL.wpW, reduceIte, Nat.reduceAdd, Nat.reduceLeDiff, DL.sFor_ap]
        refine ⟨_, _, rfl, ?_, by trivial, by trivial, by simp⟩
        simp only [List.length_map, List.length_take]
        omega
    · rintro acc S' ⟨e1, rfl⟩
      rw [e1]
      clear e1 S'
      rw [List.length_map, List.length_map, Nat.zero_add, List.take_length]
      have hv : (!decide (false ∈ zs.map fun q => q.1.nul)) = (yo zs).all Ou.b := by
        rw [Bool.eq_iff_iff]
        simp only [Bool.not_eq_true', decide_eq_false_iff_not, List.mem_map, List.all_eq_true]
        constructor
        · rintro h o ⟨q, hq, rfl⟩
          rw [q.1.out_b]
          cases hn : q.1.nul with
          | true => rfl
          | false => exact absurd ⟨q, hq, hn⟩ h
        · rintro h ⟨q, hq, hn⟩
          have := h _ ⟨q, hq, rfl⟩
          rw [q.1.out_b, hn] at this
          cases this
      simp -implicitDefEqProofs only [DL.wpW, reduceIte, Nat.reduceAdd, Nat.reduceLeDiff, DL.sFor_ap, inBs, hv]
      exact q
end
end My

namespace My
open PySem PySem.Spec PyProof.Rows L2 DL
theorem WS_ifc {c : BD} {s t : SD} {ρ : DL.Env} {S : Sto} {P : Wn} (M : Bool → Sto → Prop) (h : WE (c ρ S) M (fun _ _ => False)) (h1 : ∀ S1, M true S1 → WS (s ρ S1) P) (h2 : ∀ S1, M false S1 → WS (t ρ S1) P) : WS (sIf c s t ρ S) P := by
  rw [sIf_ap, WS_lift]
  refine WE_mono h (fun b S1 hm => ?_) (fun _ _ z => z.elim)
  cases b with
  | true => rw [if_pos rfl]; exact h1 S1 hm
  | false => rw [if_neg (by decide)]; exact h2 S1 hm
theorem yo_ofs_at {xs : List Ex} {k i : Nat} {o : Ou} (h : (outsL xs k)[i]? = some o) : ∃ a, xs[i]? = some a ∧ o = a.out (k + cntL (xs.take i)) ∧ (ofs xs k)[i]? = some (a, k + cntL (xs.take i)) := by
  have hi := (List.getElem?_eq_some_iff.mp h).1
  rw [List.length_map, ofs_len] at hi
  have er : xs[i]? = some xs[i] := List.getElem?_eq_getElem hi
  have eo := ofs_at xs k i _ er
  refine ⟨xs[i], er, ?_, eo⟩
  rw [List.getElem?_map, eo] at h
  exact (Option.some.inj h).symm
theorem sq_bnd {xs : List Ex} {i : Nat} {a : Ex} (h : xs[i]? = some a) (D : Nat) (hd : a.dep + 1 ≤ D) : cntL (xs.take i) * (cntL xs * D) + FB a ≤ cntL (xs.take (i + 1)) * (cntL xs * D) := by
  rw [cntL_snoc h, Nat.add_mul]
  refine Nat.add_le_add_left ?_ _
  show a.cnt * a.cnt * (a.dep + 1) ≤ a.cnt * (cntL xs * D)
  rw [Nat.mul_assoc]
  have h1 := cntL_le h
  exact Nat.mul_le_mul_left _ (Nat.mul_le_mul (by omega) hd)
section
variable {S : Sto} {m : Nat} {Q : D → Sto → Prop} {E : Xc → Sto → Prop}
/-- the items one by one -/
theorem fol_items2 {w : Str} {e : Ex} {xs : List Ex} {k f : Nat} {ps : List (Nat × Nat)} (nd : Nd w e xs) (hf : e.dep < f + 1) (hf6 : f + 1 ≤ 6) (hcn : e.cnt < 1000) (hm : m < S.length) (hc : ClS 0 S) (hlen : ps.length + FB e < 1000000) (H : ∀ a ∈ xs, FolS m a) :
    WS (sFor (iTpl (eBin gIx (eVar 0) (eC (.int 1)))) (gNm 3) (sExpr (eCall 2 (G_law_follows f) (aCons (eVar 3) (aCons (eVar 1) (aNil))))) (FE (e.npy k) m none none none none none) (S.set m (prO ps)))
      (Qn fun ρ S' => ∃ X v3, (∀ p, p ∈ X ↔ ∃ o ∈ outsL xs k, p ∈ o.P) ∧ List.length X ≤ e.cnt * e.cnt * e.dep ∧ S' = S.set m (prO (ps ++ X)) ∧ ρ = FE (e.npy k) m none v3 none none none) := by
  have p1 : ∀ S : Sto, gIx (.p (e.npy k)) (.p (.int 1)) S = .ok (.p (.tuple (nps (ofs xs k)))) S := fun S => by rw [nd.npy]; rfl
  have cl : ∀ {l : List (Nat × Nat)}, ClS 0 (S.set m (prO l)) := clS_set hc clO_p
  have hce := nd.cnt
  have hfb : FB e = e.cnt * e.cnt * e.dep + e.cnt * e.cnt := by show e.cnt * e.cnt * (e.dep + 1) = _; rw [Nat.mul_add, Nat.mul_one]
  simp -implicitDefEqProofs only [DL.wpW, reduceIte, Nat.reduceAdd, Nat.reduceLeDiff, DL.sFor_ap, p1]
  refine WS_for (fun i ρ S' => ∃ X v3, (∀ p, p ∈ X ↔ ∃ o ∈ (outsL xs k).take i, p ∈ o.P) ∧ List.length X ≤ cntL (xs.take i) * (cntL xs * e.dep) ∧ S' = S.set m (prO (ps ++ X)) ∧ ρ = FE (e.npy k) m none v3 none none none) _ 0 _ _ ⟨[], none, (fun p => by simp), Nat.zero_le _, by rw [List.append_nil], rfl⟩ ?_ ?_
  · rintro i d ρ S' hd ⟨X, v3, g1, g2, rfl, rfl⟩
    rw [List.map_map, List.getElem?_map] at hd
    cases eo : (ofs xs k)[i]? with
    | none => rw [eo] at hd; cases hd
    | some q =>
      have hi : i < xs.length := by have := (List.getElem?_eq_some_iff.mp eo).1; rwa [ofs_len] at this
      have er : xs[i]? = some xs[i] := List.getElem?_eq_getElem hi
      have ha := List.getElem_mem hi
      generalize xs[i] = a at er ha
      have eo2 := ofs_at xs k i a er
      rw [eo2] at hd eo
      cases hd
      cases eo
      have hdp := nd.dep a ha
      have hle := cntL_le er
      have hb := sq_bnd er e.dep hdp
      have htk := cntL_take xs (i + 1)
      have hmx : cntL (xs.take (i + 1)) * (cntL xs * e.dep) ≤ cntL xs * (cntL xs * e.dep) := Nat.mul_le_mul_right _ htk
      have hcd : cntL xs * (cntL xs * e.dep) = e.cnt * e.cnt * e.dep := by rw [hce, Nat.mul_assoc]
      rw [Nat.zero_add] at g1 g2 ⊢
      simp -implicitDefEqProofs only [DL.wpW, reduceIte, Nat.reduceAdd, Nat.reduceLeDiff, DL.sFor_ap, Function.comp_apply]
      refine H a ha f _ (by omega) (by omega) (by omega) (List.getElem?_set_self hm) cl (by rw [List.length_append]; omega) fun X2 k1 k2 => ?_
      simp -implicitDefEqProofs only [DL.wpW, reduceIte, Nat.reduceAdd, Nat.reduceLeDiff, DL.sFor_ap, List.set_set]
      refine ⟨by trivial, X ++ X2, _, fun p => ?_, by rw [List.length_append]; omega, by rw [List.append_assoc], rfl⟩
      have eoo : (outsL xs k)[i]? = some (a.out (k + cntL (xs.take i))) := by rw [List.getElem?_map, eo2]; rfl
      rw [List.mem_append, g1, k1, List.take_succ, eoo]
      simp only [List.mem_append, Option.toList_some, List.mem_singleton]
      constructor
      · rintro (⟨o, z1, z2⟩ | z)
        · exact ⟨o, .inl z1, z2⟩
        · exact ⟨_, .inr rfl, z⟩
      · rintro ⟨o, z1 | z1, z2⟩
        · exact .inl ⟨o, z1, z2⟩
        · rw [z1] at z2; exact .inr z2
  · rintro ρ S' ⟨X, v3, g1, g2, rfl, rfl⟩
    rw [List.length_map, List.length_map, ofs_len, Nat.zero_add] at g1 g2
    rw [List.take_length] at g2
    rw [show (outsL xs k).take xs.length = outsL xs k from List.take_of_length_le (by rw [List.length_map, ofs_len]; exact Nat.le_refl _)] at g1
    exact ⟨X, v3, g1, by rw [hce, Nat.mul_assoc, ← hce]; rw [← hce] at g2; exact g2, rfl, rfl⟩
/-- products of items that come behind one another -/
theorem fol_cross {e : Ex} {xs : List Ex} {k : Nat} {ps : List (Nat × Nat)} {v3 : Option D} (nd : Nd (Str.ofString "sequence") e xs) (hd6 : e.dep ≤ 6) (hfin : ∀ a ∈ xs, Ex.fin a) (hcn : e.cnt < 1000) (hm : m < S.length) (hc : ClS 0 S) (hlen : ps.length + e.cnt * e.cnt < 1000000) :
    WS (sFor (iRgA (aCons (eB gLen (aCons (eBin gIx (eVar 0) (eC (.int 1))) (aNil))) (aNil))) (gNm 4) (sFor (iRgB (aCons (eBin gAdd (eVar 4) (eC (.int 1))) (aCons (eB gLen (aCons (eBin gIx (eVar 0) (eC (.int 1))) (aNil))) (aNil)))) (gNm 6) (sIf (bOr (asB (eBin (gEq false) (eVar 6) (eBin gAdd (eVar 4) (eC (.int 1))))) (asB (eBin (gInA true) (eC (.bool false)) (eLc (iTpl (eSl (eBin gIx (eVar 0) (eC (.int 1))) (oSome (eBin gAdd (eVar 4) (eC (.int 1)))) (oSome (eVar 6)))) (gNm 3) (bYes) (eCall 1 (G_law_empty 6) (aCons (eVar 3) (aNil))) [3])))) (sFor (iLst (eCall 2 (G_law_ends 6) (aCons (eBin gIx (eBin gIx (eVar 0) (eC (.int 1))) (eVar 4)) (aCons (eC (.bool true)) (aNil))))) (gNm 2) (sFor (iLst (eCall 2 (G_law_ends 6) (aCons (eBin gIx (eBin gIx (eVar 0) (eC (.int 1))) (eVar 6)) (aCons (eC (.bool false)) (aNil))))) (gNm 5) (sExpr (eMth gApp (eVar 1) (aCons (eTup (aCons (eVar 2) (aCons (eVar 5) (aNil)))) (aNil)))))) (sNil))) (FE (e.npy k) m none v3 none none none) (S.set m (prO ps)))
      (Qn fun ρ S' => ∃ X v2 v3 v4 v5 v6, (∀ p, p ∈ X ↔ p ∈ crP (outsL xs k)) ∧ List.length X ≤ e.cnt * e.cnt ∧ S' = S.set m (prO (ps ++ X)) ∧ ρ = FE (e.npy k) m v2 v3 v4 v5 v6) := by
  have p1 : ∀ S : Sto, gIx (.p (e.npy k)) (.p (.int 1)) S = .ok (.p (.tuple (nps (ofs xs k)))) S := fun S => by rw [nd.npy]; rfl
  have cl : ∀ {l : List (Nat × Nat)}, ClS 0 (S.set m (prO l)) := clS_set hc clO_p
  have hce := nd.cnt
  have hfew := nd.few
  have bl : big62 (xs.length : Int) = true := big62_nat (by omega)
  have hol : (outsL xs k).length = xs.length := by rw [List.length_map, ofs_len]
  simp -implicitDefEqProofs only [DL.wpW, reduceIte, Nat.reduceAdd, Nat.reduceLeDiff, DL.sFor_ap, p1, List.length_map, ofs_len, bl, Int.toNat_natCast]
  refine WS_for (fun i ρ S' => i ≤ xs.length ∧ ∃ X v2 v3 v4 v5 v6, (∀ p, p ∈ X ↔ ∃ u o, u < i ∧ (outsL xs k)[u]? = some o ∧ p.1 ∈ o.L ∧ p.2 ∈ fsG Ou.F ((outsL xs k).drop (u + 1))) ∧ List.length X ≤ cntL (xs.take i) * cntL xs ∧ S' = S.set m (prO (ps ++ X)) ∧ ρ = FE (e.npy k) m v2 v3 v4 v5 v6) _ 0 _ _ ⟨Nat.zero_le _, [], none, v3, none, none, none, (fun p => by simp), Nat.zero_le _, by rw [List.append_nil], rfl⟩ ?_ ?_
  · rintro i d ρ S' hd ⟨_, X, v2, v3, v4, v5, v6, g1, g2, rfl, rfl⟩
    obtain ⟨hi, rfl⟩ := rngL_get hd
    have er : xs[i]? = some xs[i] := List.getElem?_eq_getElem hi
    have ha := List.getElem_mem hi
    generalize xs[i] = a at er ha
    have eo := ofs_at xs k i a er
    have hdp := nd.dep a ha
    have hle := cntL_le er
    have hsn := cntL_snoc er
    have b1 : big62 ((i : Int) + 1) = true := by rw [show (i : Int) + 1 = ((i + 1 : Nat) : Int) by omega]; exact big62_nat (by omega)
    rw [Nat.zero_add, show (0 : Int) + (i : Int) = (i : Int) by omega] at *
    simp -implicitDefEqProofs only [DL.wpW, reduceIte, Nat.reduceAdd, Nat.reduceLeDiff, DL.sFor_ap, p1, List.length_map, ofs_len, b1, bl]
    rw [show (i : Int) + 1 = ((i + 1 : Nat) : Int) by omega, show ((xs.length : Int) - ((i + 1 : Nat) : Int)).toNat = xs.length - (i + 1) by omega]
    have hmul : cntL (xs.take (i + 1)) * cntL xs = cntL (xs.take i) * cntL xs + a.cnt * cntL xs := by rw [hsn, Nat.add_mul]
    have hmax : cntL (xs.take (i + 1)) * cntL xs ≤ e.cnt * e.cnt := by rw [hce]; exact Nat.mul_le_mul_right _ (cntL_take _ _)
    refine WS_for (fun j ρ S' => ∃ X2 v2 v3 v5 v6, (∀ p, p ∈ X2 ↔ p ∈ X ∨ (p.1 ∈ (a.out (k + cntL (xs.take i))).L ∧ ∃ u o, u < j ∧ (outsL xs k)[i + 1 + u]? = some o ∧ p.2 ∈ o.F ∧ (((outsL xs k).drop (i + 1)).take u).all Ou.b = true)) ∧ List.length X2 ≤ cntL (xs.take i) * cntL xs + a.cnt * cntL (xs.take (i + 1 + j)) ∧ S' = S.set m (prO (ps ++ X2)) ∧ ρ = FE (e.npy k) m v2 v3 (some (.int (i : Nat))) v5 v6) _ 0 _ _ ⟨X, v2, v3, v5, v6, (fun p => ⟨.inl, fun z => z.elim id fun ⟨_, u, o, hu, _⟩ => absurd hu (by omega)⟩), by omega, rfl, rfl⟩ ?_ ?_
    · rintro j d ρ S' hd ⟨X2, v2, v3, v5, v6, k1, k2, rfl, rfl⟩
      obtain ⟨hj, rfl⟩ := rngL_get hd
      have hji : i + 1 + j < xs.length := by omega
      have er2 : xs[i + 1 + j]? = some xs[i + 1 + j] := List.getElem?_eq_getElem hji
      have hb := List.getElem_mem hji
      generalize xs[i + 1 + j] = c at er2 hb
      have eo2 := ofs_at xs k (i + 1 + j) c er2
      have hdp2 := nd.dep c hb
      have hsn2 := cntL_snoc er2
      have hle2 := cntL_le er2
      have hac : a.cnt * cntL (xs.take (i + 1 + j + 1)) = a.cnt * cntL (xs.take (i + 1 + j)) + a.cnt * c.cnt := by rw [hsn2, Nat.mul_add]
      have hac2 : a.cnt * cntL (xs.take (i + 1 + j + 1)) ≤ a.cnt * cntL xs := Nat.mul_le_mul_left _ (cntL_take _ _)
      have eoo : (outsL xs k)[i + 1 + j]? = some (c.out (k + cntL (xs.take (i + 1 + j)))) := by rw [List.getElem?_map, eo2]; rfl
      rw [Nat.zero_add] at k1 k2 ⊢
      rw [show ((i + 1 : Nat) : Int) + (j : Int) = ((i + 1 + j : Nat) : Int) by omega]
      simp only [gNm_ap, WE_ok, List.set_cons_succ, List.set_cons_zero]
      have hbt : (((yo (ofs xs k)).take (i + 1 + j)).drop (i + 1)) = ((outsL xs k).drop (i + 1)).take j := by
        rw [List.drop_take, show i + 1 + j - (i + 1) = j by omega]
      -- what the test tells
      have next : ∀ (X3 : List (Nat × Nat)), (∀ p, p ∈ X3 ↔ p ∈ X2 ∨ ((((outsL xs k).drop (i + 1)).take j).all Ou.b = true ∧ p.1 ∈ (a.out (k + cntL (xs.take i))).L ∧ p.2 ∈ (c.out (k + cntL (xs.take (i + 1 + j)))).F)) → ∀ p, p ∈ X3 ↔ p ∈ X ∨ (p.1 ∈ (a.out (k + cntL (xs.take i))).L ∧ ∃ u o, u < j + 1 ∧ (outsL xs k)[i + 1 + u]? = some o ∧ p.2 ∈ o.F ∧ (((outsL xs k).drop (i + 1)).take u).all Ou.b = true) := fun X3 h3 p => by
        rw [h3, k1]
        constructor
        · rintro ((z | ⟨z1, u, o, z2, z3⟩) | ⟨z1, z2, z3⟩)
          · exact .inl z
          · exact .inr ⟨z1, u, o, by omega, z3⟩
          · exact .inr ⟨z2, j, _, by omega, eoo, z3, z1⟩
        · rintro (z | ⟨z1, u, o, z2, z3, z4, z5⟩)
          · exact .inl (.inl z)
          · by_cases hu : u = j
            · subst hu
              rw [eoo] at z3
              cases z3
              exact .inr ⟨z5, z1, z4⟩
            · exact .inl (.inr ⟨z1, u, o, by omega, z3, z4, z5⟩)
      refine WS_ifc (fun b S1 => b = (((outsL xs k).drop (i + 1)).take j).all Ou.b ∧ S1 = S.set m (prO (ps ++ X2))) ?_ ?_ ?_
      · exact btw_ap (f := 0) p1 (by omega) (by rw [ofs_len]; omega) (by rw [ofs_len]; exact hfew) (fun q hq => by have := nd.dep _ (mem_ofs xs k q hq); omega) (fun q hq => hfin _ (mem_ofs xs k q hq)) cl ⟨by rw [hbt], rfl⟩
      · rintro S1 ⟨hb1, e1⟩
        rw [e1]
        clear e1 S1
        refine WS_mono (prod_wp (A := (a.out (k + cntL (xs.take i))).L) (B := (c.out (k + cntL (xs.take (i + 1 + j)))).F) (na := a.cnt) (nb := c.cnt) hm hc (by rw [List.length_append]; omega) ?_ ?_) (fun ρ S' ⟨X3, v2, v5, q1, q2, q3, q4⟩ => ?_) (fun _ _ z => z.elim) (fun _ _ z => z.elim) (fun _ _ z => z.elim) (fun _ _ _ z => z.elim)
        · intro S Q E v2 v5 hc q
          simp -implicitDefEqProofs only [DL.wpW, reduceIte, Nat.reduceAdd, Nat.reduceLeDiff, DL.sFor_ap, p1, npsAt eo]
          exact ends_wp a (hfin a ha) 6 _ true (by omega) (by omega) (by omega) hc q
        · intro S Q E v2 v5 hc q
          simp -implicitDefEqProofs only [DL.wpW, reduceIte, Nat.reduceAdd, Nat.reduceLeDiff, DL.sFor_ap, p1, npsAt eo2]
          exact ends_wp c (hfin c hb) 6 _ false (by omega) (by omega) (by omega) hc q
        · refine ⟨by trivial, X2 ++ X3, v2, v3, v5, _, next _ fun p => ?_, ?_, by rw [q3, List.append_assoc], q4⟩
          · rw [List.mem_append, q1]
            exact or_congr_right ⟨fun z => ⟨hb1.symm, z⟩, fun z => z.2⟩
          · rw [List.length_append, show i + 1 + (j + 1) = i + 1 + j + 1 by omega, hac]; omega
      · rintro S1 ⟨hb1, e1⟩
        rw [e1]
        clear e1 S1
        rw [sNil_ap]
        refine ⟨by trivial, X2, v2, v3, v5, _, next _ fun p => ?_, ?_, rfl, rfl⟩
        · exact ⟨.inl, fun z => z.elim id fun z => by rw [← hb1] at z; cases z.1⟩
        · rw [show i + 1 + (j + 1) = i + 1 + j + 1 by omega, hac]; omega
    · rintro ρ S' ⟨X2, v2, v3, v5, v6, k1, k2, rfl, rfl⟩
      rw [rngL_length, Nat.zero_add] at k1 k2
      have hac2 : a.cnt * cntL (xs.take (i + 1 + (xs.length - (i + 1)))) ≤ a.cnt * cntL xs := Nat.mul_le_mul_left _ (cntL_take _ _)
      refine ⟨by trivial, by omega, X2, v2, v3, _, v5, v6, fun p => ?_, by omega, rfl, rfl⟩
      have eoi : (outsL xs k)[i]? = some (a.out (k + cntL (xs.take i))) := by rw [List.getElem?_map, eo]; rfl
      rw [k1, g1]
      constructor
      · rintro (⟨u, o, z1, z2⟩ | ⟨z1, u, o, z2, z3, z4, z5⟩)
        · exact ⟨u, o, by omega, z2⟩
        · refine ⟨i, _, by omega, eoi, z1, (mem_fsG _ _ _).mpr ⟨u, o, ?_, z4, z5⟩⟩
          rw [List.getElem?_drop]; exact z3
      · rintro ⟨u, o, z1, z2, z3, z4⟩
        by_cases hu : u = i
        · subst hu
          rw [eoi] at z2
          cases z2
          obtain ⟨u', o', y1, y2, y3⟩ := (mem_fsG _ _ _).mp z4
          rw [List.getElem?_drop] at y1
          have := (List.getElem?_eq_some_iff.mp y1).1
          exact .inr ⟨z3, u', o', by omega, y1, y2, y3⟩
        · exact .inl ⟨u, o, by omega, z2, z3, z4⟩
  · rintro ρ S' ⟨_, X, v2, v3, v4, v5, v6, g1, g2, rfl, rfl⟩
    rw [rngL_length, Nat.zero_add] at g1 g2
    rw [List.take_length] at g2
    refine ⟨X, v2, v3, v4, v5, v6, fun p => ?_, by rw [hce]; exact g2, rfl, rfl⟩
    rw [g1, mem_crP]
    constructor
    · rintro ⟨u, o, z1, z2⟩; exact ⟨u, o, z2⟩
    · rintro ⟨u, o, z1, z2⟩
      exact ⟨u, o, by have := (List.getElem?_eq_some_iff.mp z1).1; omega, z1, z2⟩
end
end My

namespace My
open PySem PySem.Spec PyProof.Rows L2 DL
section
variable {S : Sto} {m : Nat} {Q : D → Sto → Prop} {E : Xc → Sto → Prop}
theorem at_set {l : List (Nat × Nat)} (hm : m < S.length) : (S.set m (prO l))[m]? = some (prO l) := List.getElem?_set_self hm
/-- repetitions -/
theorem fol_rep {a e : Ex} {w : Str} (hnp : ∀ k, e.npy k = .tuple [.str w, a.npy k]) (h2 : SeqAt.shaped (.str w) = true) (h3 : (L3.any fun z => PyData.eqv z (.str w)) = true) (h4 : ([PyData.str "any", .str "some"].any fun z => PyData.eqv z (.str w)) = true) (h5 : ([PyData.str "choice", .str "sequence"].any fun z => PyData.eqv z (.str w)) = false) (h6 : (w == Str.ofString "sequence") = false)
    (hdp : e.dep = a.dep + 1) (hcn : e.cnt = a.cnt) (hP : ∀ k p, p ∈ (e.out k).P ↔ p ∈ (a.out k).P ∨ (p.1 ∈ (a.out k).L ∧ p.2 ∈ (a.out k).F)) (hfa : a.fin) (H : FolS m a) : FolS m e := by
  intro f k S ps Q E hf hf6 hc9 hp hc hlen q
  obtain ⟨f, rfl⟩ : ∃ f', f = f' + 1 := ⟨f - 1, by omega⟩
  have hm : m < S.length := (List.getElem?_eq_some_iff.mp hp).1
  have cl : ∀ {l : List (Nat × Nat)}, ClS 0 (S.set m (prO l)) := clS_set hc clO_p
  have hfb : FB e = FB a + a.cnt * a.cnt := by show e.cnt * e.cnt * (e.dep + 1) = a.cnt * a.cnt * (a.dep + 1) + _; rw [hcn, hdp, Nat.mul_add, Nat.mul_one]
  refine WE_def (fun d S' => ∃ X : List (Nat × Nat), (∀ p, p ∈ X ↔ p ∈ (e.out k).P) ∧ X.length ≤ FB e ∧ d = .non ∧ S' = S.set m (prO (ps ++ X))) ?_ (fun d S' ⟨X, g1, g2, e1, e2⟩ => ⟨.none, S', [], e1, by rw [List.append_nil], by rw [e2]; simp, by rw [e2]; exact cl, by rw [e2]; exact q X g1 g2⟩)
  rw [show start0 NN_law_follows [.p (e.npy k), .ob m] = FE (e.npy k) m none none none none none from rfl]
  conv => arg 1; rw [self_set hp]
  unfold B_law_follows
  have p0 : ∀ S : Sto, gIx (.p (e.npy k)) (.p (.int 0)) S = .ok (.str w) S := fun S => by rw [hnp]; rfl
  have p1 : ∀ S : Sto, gIx (.p (e.npy k)) (.p (.int 1)) S = .ok (.p (a.npy k)) S := fun S => by rw [hnp]; rfl
  refine WS_cut (fun ρ S' => ∃ X v2 v5, (∀ p, p ∈ X ↔ p.1 ∈ (a.out k).L ∧ p.2 ∈ (a.out k).F) ∧ List.length X ≤ a.cnt * a.cnt ∧ S' = S.set m (prO (ps ++ X)) ∧ ρ = FE (e.npy k) m v2 none none v5 none) ?_ ?_
  · refine WS_ifc (fun b S1 => b = true ∧ S1 = S.set m (prO ps)) ?_ ?_ (fun S1 z => nomatch z.1)
    · simp -implicitDefEqProofs only [DL.wpW, reduceIte, Nat.reduceAdd, Nat.reduceLeDiff, DL.sFor_ap, p0, inw h2 l2t, h4]
      all_goals exact ⟨by trivial, by trivial⟩
    rintro S1 ⟨_, e1⟩
    rw [e1]
    clear e1 S1
    refine WS_mono (prod_wp (A := (a.out k).L) (B := (a.out k).F) (na := a.cnt) (nb := a.cnt) hm hc (by omega) ?_ ?_) (fun ρ S' ⟨X3, v2, v5, q1, q2, q3, q4⟩ => ⟨X3, v2, v5, q1, q2, q3, q4⟩) (fun _ _ z => z.elim) (fun _ _ z => z.elim) (fun _ _ z => z.elim) (fun _ _ _ z => z.elim)
    · intro S Q E v2 v5 hc q
      simp -implicitDefEqProofs only [DL.wpW, reduceIte, Nat.reduceAdd, Nat.reduceLeDiff, DL.sFor_ap, p1]
      exact ends_wp a hfa 6 _ true (by omega) (by omega) (by omega) hc q
    · intro S Q E v2 v5 hc q
      simp -implicitDefEqProofs only [DL.wpW, reduceIte, Nat.reduceAdd, Nat.reduceLeDiff, DL.sFor_ap, p1]
      exact ends_wp a hfa 6 _ false (by omega) (by omega) (by omega) hc q
  rintro ρ S' ⟨X, v2, v5, g1, g2, rfl, rfl⟩
  simp -implicitDefEqProofs only [DL.wpW, reduceIte, Nat.reduceAdd, Nat.reduceLeDiff, DL.sFor_ap, p0, inw h2 l3s, h3, p1]
  refine H f k (by omega) (by omega) (by omega) (at_set hm) cl (by rw [List.length_append]; omega) fun X2 k1 k2 => ?_
  simp -implicitDefEqProofs only [DL.wpW, reduceIte, Nat.reduceAdd, Nat.reduceLeDiff, DL.sFor_ap, p0, inw h2 l2u, h5, h6, List.set_set]
  refine ⟨X ++ X2, fun p => ?_, by rw [List.length_append]; omega, by trivial, by rw [List.append_assoc]⟩
  rw [List.mem_append, g1, k1, hP]
  exact Or.comm
theorem follows_wp : ∀ e : Ex, e.fin → FolS m e := by
  refine Ex.ind ?_ ?_ ?_ ?_ ?_ ?_
  · intro p lo hi c _ f k S ps Q E hf hf6 hc9 hp hc hlen q
    obtain ⟨f, rfl⟩ : ∃ f', f = f' + 1 := ⟨f - 1, by omega⟩
    have hm : m < S.length := (List.getElem?_eq_some_iff.mp hp).1
    have cl : ∀ {l : List (Nat × Nat)}, ClS 0 (S.set m (prO l)) := clS_set hc clO_p
    refine WE_def (fun d S' => d = .non ∧ S' = S.set m (prO (ps ++ []))) ?_ (fun d S' ⟨e1, e2⟩ => ⟨.none, S', [], e1, by rw [List.append_nil], by rw [e2]; simp, by rw [e2]; exact cl, by rw [e2]; exact q [] (fun p => Iff.rfl) (Nat.zero_le _)⟩)
    rw [show start0 NN_law_follows [.p ((Ex.pl p lo hi c).npy k), .ob m] = FE ((Ex.pl p lo hi c).npy k) m none none none none none from rfl]
    unfold B_law_follows
    have p0 : ∀ S : Sto, gIx (.p ((Ex.pl p lo hi c).npy k)) (.p (.int 0)) S = .ok (.str (Str.ofString "place")) S := fun S => rfl
    simp -implicitDefEqProofs only [DL.wpW, reduceIte, Nat.reduceAdd, Nat.reduceLeDiff, DL.sFor_ap, p0, inw ws1 l2t, c1, inw ws1 l3s, a1, inw ws1 l2u, d1, h1]
    exact ⟨by trivial, by rw [← self_set hp]⟩
  · intro l Hh hfi f k S ps Q E hf hf6 hc9 hp hc hlen q
    obtain ⟨f, rfl⟩ : ∃ f', f = f' + 1 := ⟨f - 1, by omega⟩
    have nd := nd_sq l (fin_sq hfi).1
    have hm : m < S.length := (List.getElem?_eq_some_iff.mp hp).1
    have cl : ∀ {l : List (Nat × Nat)}, ClS 0 (S.set m (prO l)) := clS_set hc clO_p
    have hfb : FB (.sq l) = (Ex.sq l).cnt * (Ex.sq l).cnt * (Ex.sq l).dep + (Ex.sq l).cnt * (Ex.sq l).cnt := by show (Ex.sq l).cnt * (Ex.sq l).cnt * ((Ex.sq l).dep + 1) = _; rw [Nat.mul_add, Nat.mul_one]
    refine WE_def (fun d S' => ∃ X : List (Nat × Nat), (∀ p, p ∈ X ↔ p ∈ ((Ex.sq l).out k).P) ∧ X.length ≤ FB (.sq l) ∧ d = .non ∧ S' = S.set m (prO (ps ++ X))) ?_ (fun d S' ⟨X, g1, g2, e1, e2⟩ => ⟨.none, S', [], e1, by rw [List.append_nil], by rw [e2]; simp, by rw [e2]; exact cl, by rw [e2]; exact q X g1 g2⟩)
    rw [show start0 NN_law_follows [.p ((Ex.sq l).npy k), .ob m] = FE ((Ex.sq l).npy k) m none none none none none from rfl]
    conv => arg 1; rw [self_set hp]
    unfold B_law_follows
    have p0 : ∀ S : Sto, gIx (.p ((Ex.sq l).npy k)) (.p (.int 0)) S = .ok (.str (Str.ofString "sequence")) S := fun S => by rw [nd.npy]; rfl
    refine WS_cut (fun ρ S' => S' = S.set m (prO ps) ∧ ρ = FE ((Ex.sq l).npy k) m none none none none none) ?_ ?_
    · simp -implicitDefEqProofs only [DL.wpW, reduceIte, Nat.reduceAdd, Nat.reduceLeDiff, DL.sFor_ap, p0, inw ws2 l2t, c2]
      all_goals exact ⟨by trivial, by trivial⟩
    rintro ρ S' ⟨rfl, rfl⟩
    refine WS_cut (fun ρ S' => S' = S.set m (prO ps) ∧ ρ = FE ((Ex.sq l).npy k) m none none none none none) ?_ ?_
    · simp -implicitDefEqProofs only [DL.wpW, reduceIte, Nat.reduceAdd, Nat.reduceLeDiff, DL.sFor_ap, p0, inw ws2 l3s, a2]
      all_goals exact ⟨by trivial, by trivial⟩
    rintro ρ S' ⟨rfl, rfl⟩
    refine WS_cut (fun ρ S' => ∃ X v3, (∀ p, p ∈ X ↔ ∃ o ∈ outsL l.toL k, p ∈ o.P) ∧ List.length X ≤ (Ex.sq l).cnt * (Ex.sq l).cnt * (Ex.sq l).dep ∧ S' = S.set m (prO (ps ++ X)) ∧ ρ = FE ((Ex.sq l).npy k) m none v3 none none none) ?_ ?_
    · refine WS_ifc (fun b S1 => b = true ∧ S1 = S.set m (prO ps)) ?_ ?_ (fun S1 z => nomatch z.1)
      · simp -implicitDefEqProofs only [DL.wpW, reduceIte, Nat.reduceAdd, Nat.reduceLeDiff, DL.sFor_ap, p0, inw ws2 l2u, d2]
        all_goals exact ⟨by trivial, by trivial⟩
      rintro S1 ⟨_, e1⟩
      rw [e1]
      clear e1 S1
      exact WS_mono (fol_items2 nd hf hf6 hc9 hm hc hlen (fun a h => Hh a h ((fin_sq hfi).2 a h))) (fun _ _ h => h) (fun _ _ z => z.elim) (fun _ _ z => z.elim) (fun _ _ z => z.elim) (fun _ _ _ z => z.elim)
    rintro ρ S' ⟨X, v3, g1, g2, rfl, rfl⟩
    refine WS_ifc (fun b S1 => b = true ∧ S1 = S.set m (prO (ps ++ X))) ?_ ?_ (fun S1 z => nomatch z.1)
    · simp -implicitDefEqProofs only [DL.wpW, reduceIte, Nat.reduceAdd, Nat.reduceLeDiff, DL.sFor_ap, p0, beq_self_eq_true]
      all_goals exact ⟨by trivial, by trivial⟩
    rintro S1 ⟨_, e1⟩
    rw [e1]
    clear e1 S1
    refine WS_mono (fol_cross nd (by omega) (fin_sq hfi).2 hc9 hm hc (by rw [List.length_append]; omega)) (fun ρ S' ⟨X2, v2, v3, v4, v5, v6, k1, k2, k3, k4⟩ => ?_) (fun _ _ z => z.elim) (fun _ _ z => z.elim) (fun _ _ z => z.elim) (fun _ _ _ z => z.elim)
    refine ⟨X ++ X2, fun p => ?_, by rw [List.length_append]; omega, by trivial, by rw [k3, List.append_assoc]⟩
    rw [List.mem_append, g1, k1, out_sq, fold_P]
    simp
  · intro l Hh hfi f k S ps Q E hf hf6 hc9 hp hc hlen q
    obtain ⟨f, rfl⟩ : ∃ f', f = f' + 1 := ⟨f - 1, by omega⟩
    have nd := nd_ch l (fin_ch hfi).1
    have hm : m < S.length := (List.getElem?_eq_some_iff.mp hp).1
    have cl : ∀ {l : List (Nat × Nat)}, ClS 0 (S.set m (prO l)) := clS_set hc clO_p
    have hfb : FB (.ch l) = (Ex.ch l).cnt * (Ex.ch l).cnt * (Ex.ch l).dep + (Ex.ch l).cnt * (Ex.ch l).cnt := by show (Ex.ch l).cnt * (Ex.ch l).cnt * ((Ex.ch l).dep + 1) = _; rw [Nat.mul_add, Nat.mul_one]
    refine WE_def (fun d S' => ∃ X : List (Nat × Nat), (∀ p, p ∈ X ↔ p ∈ ((Ex.ch l).out k).P) ∧ X.length ≤ FB (.ch l) ∧ d = .non ∧ S' = S.set m (prO (ps ++ X))) ?_ (fun d S' ⟨X, g1, g2, e1, e2⟩ => ⟨.none, S', [], e1, by rw [List.append_nil], by rw [e2]; simp, by rw [e2]; exact cl, by rw [e2]; exact q X g1 g2⟩)
    rw [show start0 NN_law_follows [.p ((Ex.ch l).npy k), .ob m] = FE ((Ex.ch l).npy k) m none none none none none from rfl]
    conv => arg 1; rw [self_set hp]
    unfold B_law_follows
    have p0 : ∀ S : Sto, gIx (.p ((Ex.ch l).npy k)) (.p (.int 0)) S = .ok (.str (Str.ofString "choice")) S := fun S => by rw [nd.npy]; rfl
    refine WS_cut (fun ρ S' => S' = S.set m (prO ps) ∧ ρ = FE ((Ex.ch l).npy k) m none none none none none) ?_ ?_
    · simp -implicitDefEqProofs only [DL.wpW, reduceIte, Nat.reduceAdd, Nat.reduceLeDiff, DL.sFor_ap, p0, inw ws3 l2t, c3]
      all_goals exact ⟨by trivial, by trivial⟩
    rintro ρ S' ⟨rfl, rfl⟩
    refine WS_cut (fun ρ S' => S' = S.set m (prO ps) ∧ ρ = FE ((Ex.ch l).npy k) m none none none none none) ?_ ?_
    · simp -implicitDefEqProofs only [DL.wpW, reduceIte, Nat.reduceAdd, Nat.reduceLeDiff, DL.sFor_ap, p0, inw ws3 l3s, a3]
      all_goals exact ⟨by trivial, by trivial⟩
    rintro ρ S' ⟨rfl, rfl⟩
    refine WS_cut (fun ρ S' => ∃ X v3, (∀ p, p ∈ X ↔ ∃ o ∈ outsL l.toL k, p ∈ o.P) ∧ List.length X ≤ (Ex.ch l).cnt * (Ex.ch l).cnt * (Ex.ch l).dep ∧ S' = S.set m (prO (ps ++ X)) ∧ ρ = FE ((Ex.ch l).npy k) m none v3 none none none) ?_ ?_
    · refine WS_ifc (fun b S1 => b = true ∧ S1 = S.set m (prO ps)) ?_ ?_ (fun S1 z => nomatch z.1)
      · simp -implicitDefEqProofs only [DL.wpW, reduceIte, Nat.reduceAdd, Nat.reduceLeDiff, DL.sFor_ap, p0, inw ws3 l2u, d3]
        all_goals exact ⟨by trivial, by trivial⟩
      rintro S1 ⟨_, e1⟩
      rw [e1]
      clear e1 S1
      exact WS_mono (fol_items2 nd hf hf6 hc9 hm hc hlen (fun a h => Hh a h ((fin_ch hfi).2 a h))) (fun _ _ h => h) (fun _ _ z => z.elim) (fun _ _ z => z.elim) (fun _ _ z => z.elim) (fun _ _ _ z => z.elim)
    rintro ρ S' ⟨X, v3, g1, g2, rfl, rfl⟩
    simp -implicitDefEqProofs only [DL.wpW, reduceIte, Nat.reduceAdd, Nat.reduceLeDiff, DL.sFor_ap, p0, h3]
    refine ⟨X, fun p => ?_, by omega, by trivial, by trivial⟩
    rw [g1, out_ch, foldc_P]
    simp
  · intro a iha hfi
    exact fol_rep (a := a) (w := Str.ofString "any") (fun k => by rw [Ex.npy]) ws4 a4 c4 d4 h4 dep_1.1 (by rw [Ex.cnt]) (fun k p => by rw [Ex.out, List.mem_append, mem_prodL_iff]) (fin_1.1.mp hfi) (iha (fin_1.1.mp hfi))
  · intro a iha hfi
    exact fol_rep (a := a) (w := Str.ofString "some") (fun k => by rw [Ex.npy]) ws5 a5 c5 d5 h5 dep_1.2.1 (by rw [Ex.cnt]) (fun k p => by rw [Ex.out, List.mem_append, mem_prodL_iff]) (fin_1.2.1.mp hfi) (iha (fin_1.2.1.mp hfi))
  · intro a iha hfi f k S ps Q E hf hf6 hc9 hp hc hlen q
    obtain ⟨f, rfl⟩ : ∃ f', f = f' + 1 := ⟨f - 1, by omega⟩
    have hm : m < S.length := (List.getElem?_eq_some_iff.mp hp).1
    have cl : ∀ {l : List (Nat × Nat)}, ClS 0 (S.set m (prO l)) := clS_set hc clO_p
    have hdp := (dep_1 (a := a)).2.2
    have hcn : (Ex.mb a).cnt = a.cnt := by rw [Ex.cnt]
    have hfb : FB a ≤ FB (.mb a) := by show a.cnt * a.cnt * (a.dep + 1) ≤ (Ex.mb a).cnt * (Ex.mb a).cnt * ((Ex.mb a).dep + 1); rw [hcn]; exact Nat.mul_le_mul_left _ (by omega)
    refine WE_def (fun d S' => ∃ X : List (Nat × Nat), (∀ p, p ∈ X ↔ p ∈ ((Ex.mb a).out k).P) ∧ X.length ≤ FB (.mb a) ∧ d = .non ∧ S' = S.set m (prO (ps ++ X))) ?_ (fun d S' ⟨X, g1, g2, e1, e2⟩ => ⟨.none, S', [], e1, by rw [List.append_nil], by rw [e2]; simp, by rw [e2]; exact cl, by rw [e2]; exact q X g1 g2⟩)
    rw [show start0 NN_law_follows [.p ((Ex.mb a).npy k), .ob m] = FE ((Ex.mb a).npy k) m none none none none none from rfl]
    conv => arg 1; rw [self_set hp]
    unfold B_law_follows
    have p0 : ∀ S : Sto, gIx (.p ((Ex.mb a).npy k)) (.p (.int 0)) S = .ok (.str (Str.ofString "maybe")) S := fun S => rfl
    have p1 : ∀ S : Sto, gIx (.p ((Ex.mb a).npy k)) (.p (.int 1)) S = .ok (.p (a.npy k)) S := fun S => rfl
    simp -implicitDefEqProofs only [DL.wpW, reduceIte, Nat.reduceAdd, Nat.reduceLeDiff, DL.sFor_ap, p0, inw ws6 l2t, c6, inw ws6 l3s, a6, p1]
    refine iha (fin_1.2.2.mp hfi) f k (by omega) (by omega) (by omega) (at_set hm) cl (by omega) fun X2 k1 k2 => ?_
    simp -implicitDefEqProofs only [DL.wpW, reduceIte, Nat.reduceAdd, Nat.reduceLeDiff, DL.sFor_ap, p0, inw ws6 l2u, d6, h6, List.set_set]
    exact ⟨X2, (fun p => by rw [k1, Ex.out]), by omega, by trivial, by trivial⟩
end
end My

namespace My
open PySem PySem.Spec PyProof.Rows L2 DL
theorem shaped_ofx : True := trivial
structure Mv where
  o : Nat
  t : Nat
  p : Nat
  lo : Nat
  hi : Nat
  c : Nat
def Mv.py (x : Mv) : PyData := .tuple [.int x.o, .int x.t, .int x.p, .int x.lo, .int x.hi, .int x.c]
def machP (ends : List Bool) (mvs : List Mv) : PyData := .tuple [.tuple (ends.map .bool), .tuple (mvs.map Mv.py)]
/-- what is known of a machine over n parts -/
structure MachOk (n : Nat) (ends : List Bool) (mvs : List Mv) : Prop where
  e1 : 1 ≤ ends.length
  e2 : ends.length ≤ 1000
  m2 : mvs.length ≤ 10000
  mv : ∀ x ∈ mvs, x.o < ends.length ∧ x.t < ends.length ∧ x.p < n ∧ 1 ≤ x.lo ∧ x.lo ≤ x.hi ∧ x.hi ≤ 16 ∧ x.c < 3
/-! rows of the machine -/
abbrev Row := List Nat × Bool
def rowP (r : Row) : PyData := .list [.list (iLs r.1), .bool r.2]
theorem iLs_eqv : ∀ a b : List Nat, PyData.eqvAll (iLs a) (iLs b) = decide (a = b)
  | [], [] => rfl
  | [], _ :: _ => rfl
  | _ :: _, [] => rfl
  | x :: a, y :: b => by
    have ih := iLs_eqv a b
    have e : PyData.eqvAll (iLs (x :: a)) (iLs (y :: b)) = (((x : Int) == (y : Int)) && PyData.eqvAll (iLs a) (iLs b)) := by simp only [iLs, List.map_cons, PyData.eqvAll, PyData.eqv]
    rw [e, ih, Bool.eq_iff_iff]
    simp only [Bool.and_eq_true, beq_iff_eq, decide_eq_true_eq, List.cons.injEq]
    exact ⟨fun h => ⟨by omega, h.2⟩, fun h => ⟨by omega, h.2⟩⟩
theorem rowP_eqv (a b : Row) : PyData.eqv (rowP a) (rowP b) = decide (a = b) := by
  obtain ⟨a1, a2⟩ := a
  obtain ⟨b1, b2⟩ := b
  have e : PyData.eqv (rowP (a1, a2)) (rowP (b1, b2)) = (PyData.eqvAll (iLs a1) (iLs b1) && ((a2 == b2) && true)) := by simp only [rowP, PyData.eqv, PyData.eqvAll]
  rw [e, iLs_eqv, Bool.eq_iff_iff]
  simp only [Bool.and_eq_true, beq_iff_eq, decide_eq_true_eq, Prod.mk.injEq, and_true]
theorem iLs_lay : ∀ a : List Nat, PyData.canLayAll0 (iLs a) = true ∧ PyData.depthAll (iLs a) ≤ 0
  | [] => by simp [iLs, PyData.canLayAll0, PyData.depthAll]
  | x :: a => by
    have ih := iLs_lay a
    have e1 : PyData.canLayAll0 (iLs (x :: a)) = PyData.canLayAll0 (iLs a) := by simp [iLs, PyData.canLayAll0, PyData.canLay0]
    have e2 : PyData.depthAll (iLs (x :: a)) = max 0 (PyData.depthAll (iLs a)) := by simp [iLs, PyData.depthAll, PyData.depth]
    rw [e1, e2]
    exact ⟨ih.1, by omega⟩
theorem rowP_lay (r : Row) : PyData.canLay0 (rowP r) = true ∧ PyData.depth (rowP r) ≤ 2 := by
  have h := iLs_lay r.1
  constructor
  · simp only [rowP, PyData.canLay0, PyData.canLayAll0, h.1, Bool.and_self]
  · simp only [rowP, PyData.depth, PyData.depthAll]
    omega
theorem rows_lay : ∀ l : List Row, PyData.canLayAll0 (l.map rowP) = true ∧ PyData.depthAll (l.map rowP) ≤ 2
  | [] => by simp [PyData.canLayAll0, PyData.depthAll]
  | r :: l => by
    have h1 := rowP_lay r
    have h2 := rows_lay l
    simp only [List.map_cons, PyData.canLayAll0, PyData.depthAll, h1.1, h2.1, Bool.and_self, true_and]
    omega
theorem shaped_of {d : PyData} {k : Nat} (h1 : PyData.canLay0 d = true) (h2 : PyData.depth d ≤ k) (h3 : k ≤ 64) : SeqAt.shaped d = true := by
  show (PyData.canLay0 d && decide (PyData.depth d ≤ 64)) = true
  rw [Bool.and_eq_true]
  exact ⟨h1, decide_eq_true (by omega)⟩
theorem rowP_sh (r : Row) : SeqAt.shaped (rowP r) = true := shaped_of (rowP_lay r).1 (rowP_lay r).2 (by decide)
theorem rows_sh (l : List Row) : SeqAt.shaped (.list (l.map rowP)) = true := by
  have h := rows_lay l
  refine shaped_of (k := 3) (by simp only [PyData.canLay0]; exact h.1) ?_ (by decide)
  simp only [PyData.depth]
  omega
theorem any_rows (r : Row) (l : List Row) : ((l.map rowP).any fun z => PyData.eqv z (rowP r)) = decide (r ∈ l) := by
  rw [List.any_map, Bool.eq_iff_iff]
  simp only [List.any_eq_true, Function.comp_apply, rowP_eqv, decide_eq_true_eq]
  constructor
  · rintro ⟨a, h, rfl⟩; exact h
  · intro h; exact ⟨r, h, rfl⟩
theorem pD_eqv (a b : Nat × Nat) : PyData.eqv (pD a) (pD b) = decide (a = b) := by
  obtain ⟨a1, a2⟩ := a
  obtain ⟨b1, b2⟩ := b
  have e : PyData.eqv (pD (a1, a2)) (pD (b1, b2)) = (((a1 : Int) == b1) && (((a2 : Int) == b2) && true)) := by simp only [pD, PyData.eqv, PyData.eqvAll]
  rw [e, Bool.eq_iff_iff]
  simp only [Bool.and_eq_true, beq_iff_eq, decide_eq_true_eq, Prod.mk.injEq, and_true]
  omega
theorem pDs_lay : ∀ l : List (Nat × Nat), PyData.canLayAll0 (l.map pD) = true ∧ PyData.depthAll (l.map pD) ≤ 1
  | [] => by simp [PyData.canLayAll0, PyData.depthAll]
  | r :: l => by
    have h2 := pDs_lay l
    have e1 : PyData.canLay0 (pD r) = true := by simp [pD, PyData.canLay0, PyData.canLayAll0]
    have e2 : PyData.depth (pD r) ≤ 1 := by simp [pD, PyData.depth, PyData.depthAll]
    simp only [List.map_cons, PyData.canLayAll0, PyData.depthAll, e1, h2.1, Bool.and_self, true_and]
    omega
theorem pD_sh (r : Nat × Nat) : SeqAt.shaped (pD r) = true := shaped_of (k := 1) (by simp [pD, PyData.canLay0, PyData.canLayAll0]) (by simp [pD, PyData.depth, PyData.depthAll]) (by decide)
theorem pDs_sh (l : List (Nat × Nat)) : SeqAt.shaped (.list (l.map pD)) = true := by
  have h := pDs_lay l
  refine shaped_of (k := 2) (by simp only [PyData.canLay0]; exact h.1) ?_ (by decide)
  simp only [PyData.depth]
  omega
theorem any_pDs (r : Nat × Nat) (l : List (Nat × Nat)) : ((l.map pD).any fun z => PyData.eqv z (pD r)) = decide (r ∈ l) := by
  rw [List.any_map, Bool.eq_iff_iff]
  simp only [List.any_eq_true, Function.comp_apply, pD_eqv, decide_eq_true_eq]
  constructor
  · rintro ⟨a, h, rfl⟩; exact h
  · intro h; exact ⟨r, h, rfl⟩
/-- in a list of data, that changes -/
theorem inL {neg : Bool} {d : PyData} {l : List PyData} {S : Sto} {n : Nat} (h : S[n]? = some (dL l)) (hf : flatD d = false) (h1 : SeqAt.shaped d = true) (h2 : SeqAt.shaped (.list l) = true) : gInA neg (.p d) (.ob n) S = .ok (.bl (neg ^^ l.any fun z => PyData.eqv z d)) S := by
  have vl : vList S (.ob n) = some l := by
    show (match S[n]? with | some (.lst l) => pAll l | some (.fz l) => some l | _ => none) = _
    rw [h]
    exact pAll_map _
  have e0 : dicO S (.ob n) = none := by simp only [dicO, h]
  rw [gInA_of e0]
  have e : gInT neg (.p d) (.ob n) S = gIn neg (.p d) (.ob n) S := rfl
  rw [e]
  have e2 : gIn neg (.p d) (.ob n) S = (match pNow S (.p d), seqP S (.ob n) with
    | some p, some l => if flatD p = true ∧ l.all flatD = true then .ok (.bl (neg ^^ l.any fun z => PyData.eqv z p)) S
        else if (vList S (.ob n)).isSome = true ∧ SeqAt.shaped p = true ∧ SeqAt.shaped (.list l) = true then .ok (.bl (neg ^^ l.any fun z => PyData.eqv z p)) S else .st
    | _, _ => .st) := by
    cases d <;> first | (cases hf; done) | rfl
  have e3 : seqP S (.ob n) = some l := vl
  have e4 : pNow S (.p d) = some d := rfl
  rw [e2]
  simp only [e3, e4, vl, hf, h1, h2, Option.isSome_some, and_self, if_true, Bool.false_eq_true, false_and, if_false]
/-- a number in a list of numbers -/
theorem inN {neg : Bool} {k : Nat} {l : List Nat} {S : Sto} : gInA neg (.p (.int k)) (.p (.list (iLs l))) S = .ok (.bl (neg ^^ decide (k ∈ l))) S := by
  rw [gInA_of dicO_p]
  have e : gInT neg (.p (.int k)) (.p (.list (iLs l))) S = gIn neg (.p (.int k)) (.p (.list (iLs l))) S := rfl
  rw [e]
  have e2 : gIn neg (.p (.int k)) (.p (.list (iLs l))) S = (match pNow S (.p (.int k)), seqP S (.p (.list (iLs l))) with
    | some p, some l' => if flatD p = true ∧ l'.all flatD = true then .ok (.bl (neg ^^ l'.any fun z => PyData.eqv z p)) S
        else if (vList S (.p (.list (iLs l)))).isSome = true ∧ SeqAt.shaped p = true ∧ SeqAt.shaped (.list l') = true then .ok (.bl (neg ^^ l'.any fun z => PyData.eqv z p)) S else .st
    | _, _ => .st) := rfl
  have e3 : seqP S (.p (.list (iLs l))) = some (iLs l) := rfl
  have e4 : pNow S (.p (.int k)) = some (.int k) := rfl
  have fl : (iLs l).all flatD = true := by
    rw [List.all_eq_true]
    intro x hx
    obtain ⟨k, _, rfl⟩ := List.mem_map.mp hx
    rfl
  have fk : flatD (.int k) = true := rfl
  rw [e2]
  simp only [e3, e4, fl, fk, and_self, if_true]
  congr 3
  rw [List.any_map, Bool.eq_iff_iff]
  simp only [List.any_eq_true, Function.comp_apply, PyData.eqv, beq_iff_eq, decide_eq_true_eq]
  constructor
  · rintro ⟨a, h, e⟩
    have : a = k := by omega
    subst this; exact h
  · intro h; exact ⟨k, h, rfl⟩
theorem eLcO_ap {fi : DL.Env → Sto → Rs IDt} {gt : GD} {b : BD} {f : ED} {vs : List Nat} {ρ : DL.Env} {S : Sto} : eLcO fi gt b f vs ρ S = (fi ρ S).bind fun d S1 => okLO (lcL gt b f d.2 (wipeE ρ vs) d.1 [] S1) := rfl
theorem WE_okLO {r : Option (List PyData × Sto)} {Q : D → Sto → Prop} {E : Xc → Sto → Prop} (h : WE (okL r) (fun d S => ∃ l, d = .lst l ∧ Q (.ob S.length) (S ++ [.lst (l.map .p)])) E) : WE (okLO r) Q E := by
  cases r with
  | none => exact h
  | some p =>
    obtain ⟨l, e, q⟩ := h
    cases e
    exact q
section
variable {S T : Sto} {k : Nat} {o : O}
theorem tg : (S ++ T)[S.length + k]? = T[k]? := by
  rw [List.getElem?_append_right (by omega)]
  congr 1
  omega
theorem ts : (S ++ T).set (S.length + k) o = S ++ T.set k o := by
  rw [List.set_append_right _ _ (by omega)]
  congr 2
  omega
theorem tg0 : (S ++ T)[S.length]? = T[0]? := tg (k := 0)
theorem ts0 : (S ++ T).set S.length o = S ++ T.set 0 o := ts (k := 0)
end
/-- the place of a row -/
def ixR (r : Row) : List Row → Nat
  | [] => 0
  | x :: l => if x = r then 0 else ixR r l + 1
theorem ixR_lt {r : Row} : ∀ {l : List Row}, r ∈ l → ixR r l < l.length
  | x :: l, h => by
    unfold ixR
    split
    · simp
    · rename_i n
      have := ixR_lt (l := l) ((List.mem_cons.mp h).resolve_left fun e => n e.symm)
      simp; omega
theorem ixR_app {r : Row} : ∀ {l m : List Row}, r ∈ l → ixR r (l ++ m) = ixR r l
  | x :: l, m, h => by
    show (if x = r then 0 else ixR r (l ++ m) + 1) = (if x = r then 0 else ixR r l + 1)
    split
    · rfl
    · rename_i n
      rw [ixR_app ((List.mem_cons.mp h).resolve_left fun e => n e.symm)]
theorem ixR_find {r : Row} : ∀ {l : List Row}, r ∈ l → (l.map rowP).findIdx? (fun z => PyData.eqv z (rowP r)) = some (ixR r l)
  | x :: l, h => by
    rw [List.map_cons, List.findIdx?_cons, rowP_eqv]
    unfold ixR
    by_cases e : x = r
    · simp [e]
    · rw [decide_eq_false e, if_neg e, ixR_find ((List.mem_cons.mp h).resolve_left fun z => e z.symm)]
      rfl
theorem gIdx_rows {r : Row} {l : List Row} {S : Sto} {n : Nat} (h : S[n]? = some (dL (l.map rowP))) (hr : r ∈ l) : gIdx (.ob n) [.p (rowP r)] S = .ok (.int (ixR r l)) S := by
  have vl : vList S (.ob n) = some (l.map rowP) := by
    show (match S[n]? with | some (.lst l) => pAll l | some (.fz l) => some l | _ => none) = _
    rw [h]
    exact pAll_map _
  have e4 : pNow S (.p (rowP r)) = some (rowP r) := rfl
  unfold gIdx
  simp only [vl, e4]
  rw [if_pos ⟨rows_sh l, rowP_sh r⟩, ixR_find hr]
abbrev bD (l : List Bool) : List PyData := l.map .bool
theorem gToTup_d {l : List PyData} {S : Sto} {n : Nat} (h : S[n]? = some (dL l)) : gToTup [.ob n] S = .ok (.p (.tuple l)) S := by
  have vl : vList S (.ob n) = some l := by
    show (match S[n]? with | some (.lst l) => pAll l | some (.fz l) => some l | _ => none) = _
    rw [h]
    exact pAll_map _
  unfold gToTup
  simp only [vl]
section
variable {S : Sto} {Q : D → Sto → Prop} {E : Xc → Sto → Prop}
abbrev RM (L : Nat) (e : Ex) (Ll : List Nat) (v8 v9 v10 v11 v12 v13 v14 : Option D) : DL.Env := [some (.p e.py), some (.ob L), some (.p (e.npy 0)), some (.ob (L + 1)), some (.p (.list (iLs Ll))), some (.ob (L + 2)), some (.ob (L + 3)), some (.ob (L + 4)), v8, v9, v10, v11, v12, v13, v14]
def PRs (e : Ex) : List (Nat × Nat) := ((e.out 0).F.map fun b => (0, b)) ++ (e.out 0).P
theorem PRs_pos {e : Ex} {k b : Nat} (h : (k, b) ∈ PRs e) : 1 ≤ b ∧ b ≤ e.cnt := by
  have ho := e.out_ok 0
  unfold PRs at h
  rcases List.mem_append.mp h with z | z
  · obtain ⟨b', hb, e1⟩ := List.mem_map.mp z
    cases e1
    have := ho.F b hb
    omega
  · have := ho.P (k, b) z
    simp only at this
    omega
/-- the row of a place, the rows so far, the state of a place -/
def rowOf (e : Ex) (k : Nat) : Row := ((List.range (e.cnt + 1)).filter (fun b => decide ((k, b) ∈ PRs e)), if k = 0 then e.nul else decide (k ∈ (e.out 0).L))
def addR (R : List Row) (r : Row) : List Row := if r ∈ R then R else R ++ [r]
def rowsU (e : Ex) : Nat → List Row
  | 0 => []
  | i + 1 => addR (rowsU e i) (rowOf e i)
def stAt (e : Ex) (k : Nat) : Nat := ixR (rowOf e k) (rowsU e (k + 1))
def stsU (e : Ex) (i : Nat) : List Nat := (List.range i).map (stAt e)
theorem mem_addR (R : List Row) (r : Row) : r ∈ addR R r := by
  unfold addR
  split
  · assumption
  · simp
theorem addR_ext (R : List Row) (r : Row) : ∃ T, addR R r = R ++ T := by
  unfold addR
  split
  · exact ⟨[], by simp⟩
  · exact ⟨[r], rfl⟩
theorem rowsU_ext (e : Ex) (i : Nat) : ∀ k, ∃ T, rowsU e (i + k) = rowsU e i ++ T
  | 0 => ⟨[], by simp⟩
  | k + 1 => by
    obtain ⟨T, h⟩ := rowsU_ext e i k
    obtain ⟨U, h2⟩ := addR_ext (rowsU e (i + k)) (rowOf e (i + k))
    refine ⟨T ++ U, ?_⟩
    show addR (rowsU e (i + k)) (rowOf e (i + k)) = _
    rw [h2, h, List.append_assoc]
theorem stAt_of {e : Ex} {k n : Nat} (h : k < n) : stAt e k = ixR (rowOf e k) (rowsU e n) := by
  obtain ⟨T, h2⟩ := rowsU_ext e (k + 1) (n - (k + 1))
  rw [show k + 1 + (n - (k + 1)) = n by omega] at h2
  have hm : rowOf e k ∈ rowsU e (k + 1) := mem_addR _ _
  rw [h2, ixR_app hm]
  rfl
theorem stsU_snoc (e : Ex) (i : Nat) : stsU e (i + 1) = stsU e i ++ [stAt e i] := by simp [stsU, List.range_succ]
/-- what holds of the rows found so far -/
structure MSt (e : Ex) (i : Nat) (R : List Row) (st : List Nat) (en : List Bool) : Prop where
  le : R.length = en.length
  li : R.length ≤ i
  ls : st.length = i
  ss : ∀ s ∈ st, s < R.length
  ne : 0 < i → 0 < R.length
  rb : ∀ r ∈ R, r.1.length ≤ e.cnt + 1 ∧ ∀ b ∈ r.1, 1 ≤ b ∧ b ≤ e.cnt
  er : R = rowsU e i
  es : st = stsU e i
  ee : en = R.map (·.2)
abbrev TM (e : Ex) (Pp : List (Nat × Nat)) (R : List Row) (st : List Nat) (en : List Bool) : Sto := [dL (e.plc.map Pl4.py), prO Pp, dL (R.map rowP), dL (iLs st), dL (bD en)]
theorem TM_cl {e : Ex} {Pp : List (Nat × Nat)} {R : List Row} {st : List Nat} {en : List Bool} (hc : ClS 0 S) : ClS 0 (S ++ TM e Pp R st en) := clS_app hc (clS_cons clO_p (clS_cons clO_p (clS_cons clO_p (clS_cons clO_p (clS_one clO_p)))))
theorem mach_row {e : Ex} {Pp : List (Nat × Nat)} {Ll : List Nat} (hfin : e.fin) (hP : ∀ p, p ∈ Pp ↔ p ∈ PRs e) (hLl : ∀ x, x ∈ Ll ↔ x ∈ (e.out 0).L) {R : List Row} {st : List Nat} {en : List Bool} {i : Nat} {v9 v10 v11 v12 v13 v14 : Option D} (hn : e.cnt ≤ 8) (hd : e.dep < 6) (hc : ClS 0 S) (hi : i ≤ e.cnt) (M : MSt e i R st en) :
    WS ((sSeq (sSet 11 (eBin (gInA false) (eVar 8) (eVar 4))) (sSeq (sIf (asB (eBin (gEq false) (eVar 8) (eC (.int 0)))) (sSet 11 (eCall 1 (G_law_empty 6) (aCons (eVar 2) (aNil)))) (sNil)) (sSeq (sSet 12 (eLst (aCons (eLc (iRgA (aCons (eBin gAdd (eB gLen (aCons (eVar 1) (aNil))) (eC (.int 1))) (aNil))) (gNm 13) (asB (eBin (gInA false) (eTup (aCons (eVar 8) (aCons (eVar 13) (aNil)))) (eVar 3))) (eVar 13) [13]) (aCons (eVar 11) (aNil))))) (sSeq (sIf (asB (eBin (gInA true) (eVar 12) (eVar 5))) (sSeq (sExpr (eMth gApp (eVar 5) (aCons (eVar 12) (aNil)))) (sExpr (eMth gApp (eVar 7) (aCons (eVar 11) (aNil))))) (sNil)) (sExpr (eMth gApp (eVar 6) (aCons (eMth gIdx (eVar 5) (aCons (eVar 12) (aNil))) (aNil)))))))) [some (.p e.py), some (.ob S.length), some (.p (e.npy 0)), some (.ob (S.length + 1)), some (.p (.list (iLs Ll))), some (.ob (S.length + 2)), some (.ob (S.length + 3)), some (.ob (S.length + 4)), some (.int (i : Nat)), v9, v10, v11, v12, none, v14] (S ++ TM e Pp R st en))
      (Qn fun ρ S' => ∃ R st en v11 v12, MSt e (i + 1) R st en ∧ S' = S ++ TM e Pp R st en ∧ ρ = RM S.length e Ll (some (.int (i : Nat))) v9 v10 v11 v12 none v14) := by
  have cl := TM_cl (e := e) (Pp := Pp) (R := R) (st := st) (en := en) hc
  refine WS_cut (fun ρ S' => S' = S ++ TM e Pp R st en ∧ ρ = RM S.length e Ll (some (.int (i : Nat))) v9 v10 (some (.bl (decide (i ∈ Ll)))) v12 none v14) ?_ ?_
  · simp -implicitDefEqProofs only [DL.wpW, reduceIte, Nat.reduceAdd, Nat.reduceLeDiff, DL.sFor_ap, inN]
    all_goals exact ⟨by trivial, rfl⟩
  rintro ρ S' ⟨rfl, rfl⟩
  refine WS_cut (fun ρ S' => ∃ b : Bool, b = (rowOf e i).2 ∧ S' = S ++ TM e Pp R st en ∧ ρ = RM S.length e Ll (some (.int (i : Nat))) v9 v10 (some (.bl b)) v12 none v14) ?_ ?_
  · by_cases h0 : i = 0
    · subst h0
      simp -implicitDefEqProofs only [DL.wpW, reduceIte, Nat.reduceAdd, Nat.reduceLeDiff, DL.sFor_ap, Int.natCast_zero, beq_self_eq_true]
      refine empty_wp e hfin 6 0 hd cl ?_
      simp -implicitDefEqProofs only [DL.wpW, reduceIte, Nat.reduceAdd, Nat.reduceLeDiff, DL.sFor_ap]
      exact ⟨_, by simp [rowOf], by trivial, rfl⟩
    · have hb : ((i : Int) == 0) = false := beq_eq_false_iff_ne.mpr (by omega)
      simp -implicitDefEqProofs only [DL.wpW, reduceIte, Nat.reduceAdd, Nat.reduceLeDiff, DL.sFor_ap, hb]
      exact ⟨_, by simp [rowOf, h0, hLl], by trivial, rfl⟩
  rintro ρ S' ⟨b, hbr, rfl, rfl⟩
  refine WS_cut (fun ρ S' => ∃ r : Row, (r.1.length ≤ e.cnt + 1 ∧ ∀ b ∈ r.1, 1 ≤ b ∧ b ≤ e.cnt) ∧ r.2 = b ∧ r = rowOf e i ∧ S' = S ++ TM e Pp R st en ∧ ρ = RM S.length e Ll (some (.int (i : Nat))) v9 v10 (some (.bl b)) (some (.p (rowP r))) none v14) ?_ ?_
  · have hlp : e.plc.length = e.cnt := by
      exact e.plc_len
    have bn : big62 ((e.cnt : Int) + 1) = true := big62_of (by omega) (by omega)
    simp -implicitDefEqProofs only [DL.wpW, reduceIte, Nat.reduceAdd, Nat.reduceLeDiff, DL.sFor_ap, tg0, List.length_map, hlp, bn]
    rw [show ((e.cnt : Int) + 1).toNat = e.cnt + 1 by omega]
    rw [show wipeE (RM S.length e Ll (some (.int (i : Nat))) v9 v10 (some (.bl b)) v12 none v14) [13] = RM S.length e Ll (some (.int (i : Nat))) v9 v10 (some (.bl b)) v12 none v14 from rfl]
    refine WE_lc (fun j acc S' => S' = S ++ TM e Pp R st en ∧ ∃ bs : List Nat, acc = iLs bs ∧ bs = (List.range j).filter (fun b => decide ((i, b) ∈ PRs e)) ∧ bs.length ≤ j ∧ ∀ b ∈ bs, 1 ≤ b ∧ b ≤ e.cnt) _ 0 _ _ ⟨rfl, [], rfl, by simp, by simp, (fun _ z => by cases z)⟩ ?_ ?_
    · rintro j d acc S' hd' ⟨rfl, bs, rfl, hbe, hbl, hbs⟩
      obtain ⟨hj, rfl⟩ := rngL_get hd'
      have g := inL (neg := false) (d := pD (i, j)) (l := Pp.map pD) (S := S ++ TM e Pp R st en) (n := S.length + 1) tg rfl (pD_sh _) (pDs_sh _)
      rw [any_pDs, show decide ((i, j) ∈ Pp) = decide ((i, j) ∈ PRs e) from decide_eq_decide.mpr (hP _)] at g
      have g2 : gInA false (.p (.tuple [.int (i : Nat), .int (j : Nat)])) (.ob (S.length + 1)) (S ++ TM e Pp R st en) = .ok (.bl (false ^^ decide ((i, j) ∈ PRs e))) (S ++ TM e Pp R st en) := g
      by_cases hm : (i, j) ∈ PRs e
      · simp -implicitDefEqProofs only [DL.wpW, reduceIte, Nat.reduceAdd, Nat.reduceLeDiff, DL.sFor_ap, Int.zero_add, g2, hm, decide_true]
        have hp := PRs_pos hm
        refine ⟨_, _, rfl, ?_, trivial, by trivial, bs ++ [j], by simp [iLs], by rw [hbe, Nat.zero_add, List.range_succ, List.filter_append]; simp [hm], by simp; omega, fun x hx => ?_⟩
        · rw [List.length_map]; omega
        · rcases List.mem_append.mp hx with z | z
          · exact hbs x z
          · rw [List.mem_singleton.mp z]; exact hp
      · simp -implicitDefEqProofs only [DL.wpW, reduceIte, Nat.reduceAdd, Nat.reduceLeDiff, DL.sFor_ap, Int.zero_add, g2, hm, decide_false]
        exact ⟨trivial, by trivial, bs, rfl, by rw [hbe, Nat.zero_add, List.range_succ, List.filter_append]; simp [hm], by omega, hbs⟩
    · rintro acc S' ⟨rfl, bs, rfl, hbe, hbl, hbs⟩
      rw [rngL_length] at hbl hbe
      simp -implicitDefEqProofs only [DL.wpW, reduceIte, Nat.reduceAdd, Nat.reduceLeDiff, DL.sFor_ap]
      exact ⟨(bs, b), ⟨by simpa using hbl, hbs⟩, rfl, by rw [hbr, hbe, Nat.zero_add]; rfl, by trivial, rfl⟩
  rintro ρ S' ⟨r, hr, rfl, hre, rfl, rfl⟩
  have gR := inL (neg := true) (d := rowP r) (l := R.map rowP) (S := S ++ TM e Pp R st en) (n := S.length + 2) tg rfl (rowP_sh _) (rows_sh _)
  rw [any_rows] at gR
  have hli := M.li
  have hle := M.le
  have hls := M.ls
  refine WS_cut (fun ρ S' => ∃ R en, R.length = en.length ∧ R.length ≤ i + 1 ∧ (∀ s ∈ st, s < R.length) ∧ r ∈ R ∧ (∀ r ∈ R, r.1.length ≤ e.cnt + 1 ∧ ∀ b ∈ r.1, 1 ≤ b ∧ b ≤ e.cnt) ∧ R = rowsU e (i + 1) ∧ en = R.map (·.2) ∧ S' = S ++ TM e Pp R st en ∧ ρ = RM S.length e Ll (some (.int (i : Nat))) v9 v10 (some (.bl r.2)) (some (.p (rowP r))) none v14) ?_ ?_
  · by_cases hm : r ∈ R
    · simp -implicitDefEqProofs only [DL.wpW, reduceIte, Nat.reduceAdd, Nat.reduceLeDiff, DL.sFor_ap, gR, hm, decide_true]
      exact ⟨R, en, hle, by omega, M.ss, hm, M.rb, by show R = addR (rowsU e i) (rowOf e i); rw [← M.er, ← hre]; unfold addR; rw [if_pos hm], M.ee, by trivial, by trivial⟩
    · have l1 : R.length < 16777216 := by omega
      have l2 : en.length < 16777216 := by omega
      simp -implicitDefEqProofs only [DL.wpW, reduceIte, Nat.reduceAdd, Nat.reduceLeDiff, DL.sFor_ap, gR, hm, decide_false, tg, ts, List.length_map, l1, l2, dL_snoc]
      refine ⟨R ++ [r], en ++ [r.2], by simp [hle], by simp; omega, fun s hs => ?_, by simp, fun x hx => ?_, by show R ++ [r] = addR (rowsU e i) (rowOf e i); rw [← M.er, ← hre]; unfold addR; rw [if_neg hm], by rw [M.ee]; simp, by simp [TM, bD], by trivial⟩
      · have := M.ss s hs
        rw [List.length_append]; omega
      · rcases List.mem_append.mp hx with z | z
        · exact M.rb x z
        · rw [List.mem_singleton.mp z]; exact hr
  rintro ρ S' ⟨R, en, hle, hli, hss, hm, hrb, hR, hen, rfl, rfl⟩
  have hj := ixR_lt hm
  have ej := gIdx_rows (r := r) (l := R) (S := S ++ TM e Pp R st en) (n := S.length + 2) tg hm
  have l3 : st.length < 16777216 := by omega
  simp -implicitDefEqProofs only [DL.wpW, reduceIte, Nat.reduceAdd, Nat.reduceLeDiff, DL.sFor_ap, tg, ts, ej, List.length_map, l3, dL_snoc]
  refine ⟨R, st ++ [ixR r R], en, _, _, ⟨hle, hli, by simp [hls], fun s hs => ?_, fun _ => by omega, hrb, hR, by rw [stsU_snoc, ← M.es, hR, hre]; rfl, hen⟩, by simp [TM, iLs], rfl⟩
  rcases List.mem_append.mp hs with z | z
  · exact hss s z
  · rw [List.mem_singleton.mp z]; exact hj
end
end My

namespace My
open PySem PySem.Spec PyProof.Rows L2 DL
section
variable {S : Sto} {Q : D → Sto → Prop} {E : Xc → Sto → Prop}
theorem mvs_snoc {l : List Mv} {x : Mv} : O.lst ((l.map fun m => D.p m.py) ++ [D.p x.py]) = dL ((l ++ [x]).map Mv.py) := by simp [dL]
/-- the move from a state to a place; the moves of a machine -/
def mvAt (e : Ex) (i b : Nat) : Mv := ⟨i, stAt e b, (e.plc.getD (b - 1) ⟨0, 0, 0, 0⟩).p, (e.plc.getD (b - 1) ⟨0, 0, 0, 0⟩).lo, (e.plc.getD (b - 1) ⟨0, 0, 0, 0⟩).hi, (e.plc.getD (b - 1) ⟨0, 0, 0, 0⟩).c⟩
def mvRow (e : Ex) (R : List Row) (i : Nat) : List Mv := (R.getD i ([], false)).1.map (mvAt e i)
def mvsU (e : Ex) (R : List Row) (i : Nat) : List Mv := (List.range i).flatMap (mvRow e R)
def machE (e : Ex) : List Bool := (rowsU e (e.cnt + 1)).map (·.2)
def machM (e : Ex) : List Mv := mvsU e (rowsU e (e.cnt + 1)) (rowsU e (e.cnt + 1)).length
theorem mach_moves {e : Ex} {Pp : List (Nat × Nat)} {Ll : List Nat} {R : List Row} {st : List Nat} {en : List Bool} {v8 v10 v11 v12 v14 : Option D} (hn : e.cnt ≤ 8) (hc : ClS 0 S) (M : MSt e (e.cnt + 1) R st en) :
    WS (forL (gNm 10) (sFor (iLst (eBin gIx (eBin gIx (eVar 5) (eVar 10)) (eC (.int 0)))) (gNm 13) (sSeq (sSet 14 (eBin gIx (eVar 1) (eBin gSub (eVar 13) (eC (.int 1))))) (sExpr (eMth gApp (eVar 9) (aCons (eTup (aCons (eVar 10) (aCons (eBin gIx (eVar 6) (eVar 13)) (aCons (eBin gIx (eVar 14) (eC (.int 1))) (aCons (eBin gIx (eVar 14) (eC (.int 2))) (aCons (eBin gIx (eVar 14) (eC (.int 3))) (aCons (eBin gIx (eVar 14) (eC (.int 4))) (aNil)))))))) (aNil)))))) (fun _ => True) (rngL 0 R.length) (RM S.length e Ll v8 (some (.ob (S.length + 5))) v10 v11 v12 none v14) (S ++ (TM e Pp R st en ++ [dL []])))
      (Qn fun ρ S' => ∃ (mvs : List Mv) (v10 v13 v14 : Option D), (mvs = mvsU e R R.length ∧ mvs.length ≤ 10000 ∧ ∀ x ∈ mvs, Mv.o x < R.length ∧ x.t < R.length) ∧ S' = S ++ (TM e Pp R st en ++ [dL (mvs.map Mv.py)]) ∧ ρ = RM S.length e Ll v8 (some (.ob (S.length + 5))) v10 v11 v12 v13 v14) := by
  have hlp : e.plc.length = e.cnt := e.plc_len
  have hli := M.li
  have hls := M.ls
  refine WS_for (fun i ρ S' => ∃ (mvs : List Mv) (v10 v13 v14 : Option D), (mvs = mvsU e R i ∧ mvs.length ≤ i * 10 ∧ ∀ x ∈ mvs, Mv.o x < R.length ∧ x.t < R.length) ∧ S' = S ++ (TM e Pp R st en ++ [dL (mvs.map Mv.py)]) ∧ ρ = RM S.length e Ll v8 (some (.ob (S.length + 5))) v10 v11 v12 v13 v14) _ 0 _ _ ⟨[], _, _, _, ⟨by simp [mvsU], by simp, fun _ z => by cases z⟩, rfl, rfl⟩ ?_ ?_
  · rintro i d ρ S' hd ⟨mvs, v10, v13, v14, ⟨hme, hml, hmv⟩, rfl, rfl⟩
    obtain ⟨hi, rfl⟩ := rngL_get hd
    have er : R[i]? = some R[i] := List.getElem?_eq_getElem hi
    have hrb := M.rb _ (List.getElem_mem hi)
    generalize R[i] = r at er hrb
    obtain ⟨hrl, hrb⟩ := hrb
    have gr : ∀ S : Sto, gIx (.p (rowP r)) (.p (.int 0)) S = .ok (.p (.list (iLs r.1))) S := fun S => rfl
    simp -implicitDefEqProofs only [DL.wpW, reduceIte, Nat.reduceAdd, Nat.reduceLeDiff, DL.sFor_ap, Int.zero_add, tg, List.getElem?_map, er, gr, List.cons_append, List.nil_append]
    refine WS_for (fun j ρ S' => ∃ (mvs : List Mv) (v13 v14 : Option D), (mvs = mvsU e R i ++ (r.1.take j).map (mvAt e i) ∧ mvs.length ≤ i * 10 + j ∧ ∀ x ∈ mvs, Mv.o x < R.length ∧ x.t < R.length) ∧ S' = S ++ (TM e Pp R st en ++ [dL (mvs.map Mv.py)]) ∧ ρ = RM S.length e Ll v8 (some (.ob (S.length + 5))) (some (.int (i : Nat))) v11 v12 v13 v14) _ 0 _ _ ⟨mvs, _, _, ⟨by rw [hme, Nat.zero_add]; simp, by omega, hmv⟩, rfl, rfl⟩ ?_ ?_
    · rintro j d ρ S' hd ⟨mvs, v13, v14, ⟨hme, hml, hmv⟩, rfl, rfl⟩
      rw [List.map_map, List.getElem?_map] at hd
      cases eb : r.1[j]? with
      | none => rw [eb] at hd; cases hd
      | some b =>
        rw [eb] at hd
        cases hd
        have hj : j < r.1.length := (List.getElem?_eq_some_iff.mp eb).1
        have hb := hrb b (List.mem_of_getElem? eb)
        have hbp : b - 1 < e.plc.length := by omega
        have ep : e.plc[b - 1]? = some e.plc[b - 1] := List.getElem?_eq_getElem hbp
        have epd : e.plc.getD (b - 1) ⟨0, 0, 0, 0⟩ = e.plc[b - 1] := by rw [List.getD_eq_getElem?_getD, ep]; rfl
        generalize e.plc[b - 1] = pl at ep epd
        have hbs : b < st.length := by omega
        have es : st[b]? = some st[b] := List.getElem?_eq_getElem hbs
        have hst := M.ss _ (List.getElem_mem hbs)
        have hss : stAt e b = st[b] := by
          have z := M.es
          have z2 : (stsU e (e.cnt + 1))[b]? = some (stAt e b) := by
            unfold stsU
            rw [List.getElem?_map, List.getElem?_range (by omega)]; rfl
          rw [← z, es] at z2
          exact (Option.some.inj z2).symm
        generalize st[b] = s at es hst hss
        have eb1 : (b : Int) - 1 = ((b - 1 : Nat) : Int) := by omega
        have hL : mvs.length < 16777216 := by omega
        have p1 : ∀ S : Sto, gIx (.p pl.py) (.p (.int 1)) S = .ok (.p (.int pl.p)) S := fun S => rfl
        have p2 : ∀ S : Sto, gIx (.p pl.py) (.p (.int 2)) S = .ok (.p (.int pl.lo)) S := fun S => rfl
        have p3 : ∀ S : Sto, gIx (.p pl.py) (.p (.int 3)) S = .ok (.p (.int pl.hi)) S := fun S => rfl
        have p4 : ∀ S : Sto, gIx (.p pl.py) (.p (.int 4)) S = .ok (.p (.int pl.c)) S := fun S => rfl
        simp -implicitDefEqProofs only [DL.wpW, reduceIte, Nat.reduceAdd, Nat.reduceLeDiff, DL.sFor_ap, Function.comp_apply, tg, tg0, List.getElem?_map, eb1, ep, es, p1, p2, p3, p4, List.cons_append, List.nil_append, List.length_map, hL, ts, dL_snoc]
        refine ⟨by trivial, mvs ++ [⟨i, s, pl.p, pl.lo, pl.hi, pl.c⟩], _, _, ⟨?_, by simp; omega, fun x hx => ?_⟩, by simp [TM, Mv.py], rfl⟩
        · rw [hme, Nat.zero_add, List.take_succ, eb, List.append_assoc]
          simp [mvAt, hss, ep]
        rcases List.mem_append.mp hx with z | z
        · exact hmv x z
        · rw [List.mem_singleton.mp z]
          exact ⟨hi, hst⟩
    · rintro ρ S' ⟨mvs, v13, v14, ⟨hme, hml, hmv⟩, rfl, rfl⟩
      rw [List.length_map, List.length_map] at hml hme
      refine ⟨by trivial, mvs, _, _, _, ⟨?_, by omega, hmv⟩, rfl, rfl⟩
      rw [hme, Nat.zero_add, Nat.zero_add, List.take_length]
      unfold mvsU
      rw [List.range_succ, List.flatMap_append]
      simp [mvRow, er]
  · rintro ρ S' ⟨mvs, v10, v13, v14, ⟨hme, hml, hmv⟩, rfl, rfl⟩
    rw [rngL_length] at hml hme
    exact ⟨mvs, _, _, _, ⟨by rw [hme, Nat.zero_add], by omega, hmv⟩, rfl, rfl⟩
theorem machine_wp {e : Ex} (hfin : e.fin) (hn : e.cnt ≤ 8) (hdep : e.dep < 6) (hc : ClS 0 S) (q : Q (.p (machP (machE e) (machM e))) S) : WE (G_law_machine [.p e.py] S) Q E := by
  have hlp : e.plc.length = e.cnt := e.plc_len
  have ho := e.out_ok 0
  refine WE_def (fun d S' => ∃ T, d = .p (machP (machE e) (machM e)) ∧ S' = S ++ T) ?_ (fun d S' ⟨T, e1, e2⟩ => ⟨_, S, T, e1, e2, rfl, hc, q⟩)
  rw [show start0 NN_law_machine [.p e.py] = [some (.p e.py), none, none, none, none, none, none, none, none, none, none, none, none, none, none] from rfl]
  unfold B_law_machine
  refine WS_cut (fun ρ S' => S' = S ++ [dL []] ∧ ρ = [some (.p e.py), some (.ob S.length), none, none, none, none, none, none, none, none, none, none, none, none, none]) ?_ ?_
  · simp -implicitDefEqProofs only [DL.wpW, reduceIte, Nat.reduceAdd, Nat.reduceLeDiff, DL.sFor_ap]
    all_goals exact ⟨by trivial, by trivial⟩
  rintro ρ S' ⟨rfl, rfl⟩
  refine WS_cut (fun ρ S' => S' = S ++ [dL (e.plc.map Pl4.py)] ∧ ρ = [some (.p e.py), some (.ob S.length), some (.p (e.npy 0)), none, none, none, none, none, none, none, none, none, none, none, none]) ?_ ?_
  · simp -implicitDefEqProofs only [DL.wpW, reduceIte, Nat.reduceAdd, Nat.reduceLeDiff, DL.sFor_ap]
    refine number_wp (m := S.length) e hfin 6 (ps := []) hdep (by rw [tg0]; rfl) (clS_app hc (clS_one clO_nil)) (by simp; omega) ?_
    simp -implicitDefEqProofs only [DL.wpW, reduceIte, Nat.reduceAdd, Nat.reduceLeDiff, DL.sFor_ap, ts0, List.nil_append, List.length_nil]
    all_goals exact ⟨by trivial, by trivial⟩
  rintro ρ S' ⟨rfl, rfl⟩
  have hfb : FB e ≤ 1000 := by
    have h1 : e.cnt * e.cnt ≤ 8 * 8 := Nat.mul_le_mul hn hn
    have h2 : e.cnt * e.cnt * (e.dep + 1) ≤ 8 * 8 * 6 := Nat.mul_le_mul h1 (by omega)
    show e.cnt * e.cnt * (e.dep + 1) ≤ 1000
    omega
  have c1 : ClS 0 (S ++ [dL (e.plc.map Pl4.py)]) := clS_app hc (clS_one clO_p)
  refine WS_cut (fun ρ S' => ∃ Fs : List Nat, (∀ x, x ∈ Fs ↔ x ∈ (e.out 0).F) ∧ Fs.length ≤ e.cnt ∧ S' = S ++ [dL (e.plc.map Pl4.py), prO (Fs.map fun b => (0, b))] ∧ ρ = [some (.p e.py), some (.ob S.length), some (.p (e.npy 0)), some (.ob (S.length + 1)), none, none, none, none, none, none, none, none, none, none, none]) ?_ ?_
  · simp -implicitDefEqProofs only [DL.wpW, reduceIte, Nat.reduceAdd, Nat.reduceLeDiff, DL.sFor_ap, eLcO_ap]
    refine ends_wp e hfin 6 0 false (by omega) (by omega) (by omega) c1 fun Fs k1 k2 => ?_
    simp -implicitDefEqProofs only [DL.wpW, reduceIte, Nat.reduceAdd, Nat.reduceLeDiff, DL.sFor_ap, eLcO_ap]
    refine WE_okLO ?_
    rw [show wipeE [some (D.p e.py), some (.ob S.length), some (.p (e.npy 0)), none, none, none, none, none, none, none, none, none, none, none, none] [13] = [some (D.p e.py), some (.ob S.length), some (.p (e.npy 0)), none, none, none, none, none, none, none, none, none, none, none, none] from rfl]
    refine WE_lc (fun i acc S' => S' = S ++ [dL (e.plc.map Pl4.py)] ∧ acc = (Fs.take i).map fun b => pD (0, b)) _ 0 _ _ ⟨rfl, by simp⟩ ?_ ?_
    · rintro i d acc S' hd' ⟨rfl, rfl⟩
      rw [List.map_map, List.getElem?_map] at hd'
      cases eb : Fs[i]? with
      | none => rw [eb] at hd'; cases hd'
      | some b =>
        rw [eb] at hd'
        cases hd'
        have hi : i < Fs.length := (List.getElem?_eq_some_iff.mp eb).1
        rw [Nat.zero_add, List.take_succ, eb]
        simp -implicitDefEqProofs only [DL.wpW, reduceIte, Nat.reduceAdd, Nat.reduceLeDiff, DL.sFor_ap, Function.comp_apply]
        refine ⟨_, _, rfl, ?_, trivial, by trivial, by simp [pD]⟩
        rw [List.length_map, List.length_take]
        omega
    · rintro acc S' ⟨rfl, rfl⟩
      rw [List.length_map, List.length_map, Nat.zero_add, List.take_length]
      refine ⟨_, rfl, ?_⟩
      exact ⟨Fs, k1, k2, by simp [prO, dL], by simp⟩
  rintro ρ S' ⟨Fs, kF1, kF2, rfl, rfl⟩
  have c2 : ∀ {l : List (Nat × Nat)}, ClS 0 (S ++ [dL (e.plc.map Pl4.py), prO l]) := clS_app hc (clS_cons clO_p (clS_one clO_p))
  refine WS_cut (fun ρ S' => ∃ Pp : List (Nat × Nat), (∀ p, p ∈ Pp ↔ p ∈ PRs e) ∧ S' = S ++ [dL (e.plc.map Pl4.py), prO Pp] ∧ ρ = [some (.p e.py), some (.ob S.length), some (.p (e.npy 0)), some (.ob (S.length + 1)), none, none, none, none, none, none, none, none, none, none, none]) ?_ ?_
  · simp -implicitDefEqProofs only [DL.wpW, reduceIte, Nat.reduceAdd, Nat.reduceLeDiff, DL.sFor_ap]
    refine follows_wp (m := S.length + 1) e hfin 6 0 (by omega) (by omega) (by omega) tg c2 (by rw [List.length_map]; omega) fun X k1 k2 => ?_
    simp -implicitDefEqProofs only [DL.wpW, reduceIte, Nat.reduceAdd, Nat.reduceLeDiff, DL.sFor_ap, ts]
    refine ⟨Fs.map (fun b => (0, b)) ++ X, fun p => ?_, by simp, by trivial⟩
    unfold PRs
    rw [List.mem_append, List.mem_append, k1, List.mem_map, List.mem_map]
    refine or_congr_left ⟨fun ⟨b, z1, z2⟩ => ⟨b, (kF1 b).mp z1, z2⟩, fun ⟨b, z1, z2⟩ => ⟨b, (kF1 b).mpr z1, z2⟩⟩
  rintro ρ S' ⟨Pp, hP, rfl, rfl⟩
  refine WS_cut (fun ρ S' => ∃ Ll : List Nat, (∀ x, x ∈ Ll ↔ x ∈ (e.out 0).L) ∧ S' = S ++ [dL (e.plc.map Pl4.py), prO Pp] ∧ ρ = [some (.p e.py), some (.ob S.length), some (.p (e.npy 0)), some (.ob (S.length + 1)), some (.p (.list (iLs Ll))), none, none, none, none, none, none, none, none, none, none]) ?_ ?_
  · simp -implicitDefEqProofs only [DL.wpW, reduceIte, Nat.reduceAdd, Nat.reduceLeDiff, DL.sFor_ap]
    refine ends_wp e hfin 6 0 true (by omega) (by omega) (by omega) c2 fun Ll k1 k2 => ?_
    try simp -implicitDefEqProofs only [DL.wpW, reduceIte, Nat.reduceAdd, Nat.reduceLeDiff, DL.sFor_ap]
    exact ⟨Ll, k1, by trivial, by trivial⟩
  rintro ρ S' ⟨Ll, hLl, rfl, rfl⟩
  refine WS_cut (fun ρ S' => S' = S ++ [dL (e.plc.map Pl4.py), prO Pp, dL []] ∧ ρ = [some (.p e.py), some (.ob S.length), some (.p (e.npy 0)), some (.ob (S.length + 1)), some (.p (.list (iLs Ll))), some (.ob (S.length + 2)), none, none, none, none, none, none, none, none, none]) ?_ ?_
  · simp -implicitDefEqProofs only [DL.wpW, reduceIte, Nat.reduceAdd, Nat.reduceLeDiff, DL.sFor_ap]
    exact ⟨by simp, by simp⟩
  rintro ρ S' ⟨rfl, rfl⟩
  refine WS_cut (fun ρ S' => S' = S ++ [dL (e.plc.map Pl4.py), prO Pp, dL [], dL []] ∧ ρ = [some (.p e.py), some (.ob S.length), some (.p (e.npy 0)), some (.ob (S.length + 1)), some (.p (.list (iLs Ll))), some (.ob (S.length + 2)), some (.ob (S.length + 3)), none, none, none, none, none, none, none, none]) ?_ ?_
  · simp -implicitDefEqProofs only [DL.wpW, reduceIte, Nat.reduceAdd, Nat.reduceLeDiff, DL.sFor_ap]
    exact ⟨by simp, by simp⟩
  rintro ρ S' ⟨rfl, rfl⟩
  refine WS_cut (fun ρ S' => S' = S ++ TM e Pp [] [] [] ∧ ρ = RM S.length e Ll none none none none none none none) ?_ ?_
  · simp -implicitDefEqProofs only [DL.wpW, reduceIte, Nat.reduceAdd, Nat.reduceLeDiff, DL.sFor_ap]
    exact ⟨by simp [TM, bD], by simp⟩
  rintro ρ S' ⟨rfl, rfl⟩
  refine WS_cut (fun ρ S' => ∃ R st en v8 v11 v12, MSt e (e.cnt + 1) R st en ∧ S' = S ++ TM e Pp R st en ∧ ρ = RM S.length e Ll v8 none none v11 v12 none none) ?_ ?_
  · have bn : big62 ((e.cnt : Int) + 1) = true := big62_of (by omega) (by omega)
    simp -implicitDefEqProofs only [DL.wpW, reduceIte, Nat.reduceAdd, Nat.reduceLeDiff, DL.sFor_ap, tg0, List.length_map, hlp, bn]
    rw [show ((e.cnt : Int) + 1).toNat = e.cnt + 1 by omega]
    refine WS_for (fun i ρ S' => ∃ R st en v8 v11 v12, MSt e i R st en ∧ S' = S ++ TM e Pp R st en ∧ ρ = RM S.length e Ll v8 none none v11 v12 none none) _ 0 _ _ ⟨[], [], [], none, none, none, ⟨rfl, by simp, rfl, (fun _ z => by cases z), (fun z => by omega), (fun _ z => by cases z), rfl, rfl, rfl⟩, rfl, rfl⟩ ?_ ?_
    · rintro i d ρ S' hd' ⟨R, st, en, v8, v11, v12, M, rfl, rfl⟩
      obtain ⟨hi, rfl⟩ := rngL_get hd'
      simp only [gNm_ap, WE_ok, List.set_cons_succ, List.set_cons_zero, Int.zero_add]
      rw [Nat.zero_add] at M
      exact WS_mono (mach_row hfin hP hLl (v9 := none) (v10 := none) (v11 := v11) (v12 := v12) (v13 := none) (v14 := none) hn hdep hc (by omega) M) (fun ρ S' ⟨R, st, en, v11, v12, M, h1, h2⟩ => ⟨trivial, R, st, en, _, v11, v12, by rw [Nat.zero_add]; exact M, h1, h2⟩) (fun _ _ z => z.elim) (fun _ _ z => z.elim) (fun _ _ z => z.elim) (fun _ _ _ z => z.elim)
    · rintro ρ S' ⟨R, st, en, v8, v11, v12, M, rfl, rfl⟩
      rw [rngL_length, Nat.zero_add] at M
      exact ⟨R, st, en, v8, v11, v12, M, rfl, rfl⟩
  rintro ρ S' ⟨R, st, en, v8, v11, v12, M, rfl, rfl⟩
  have hli := M.li
  have hle := M.le
  refine WS_cut (fun ρ S' => S' = S ++ (TM e Pp R st en ++ [dL []]) ∧ ρ = RM S.length e Ll v8 (some (.ob (S.length + 5))) none v11 v12 none none) ?_ ?_
  · simp -implicitDefEqProofs only [DL.wpW, reduceIte, Nat.reduceAdd, Nat.reduceLeDiff, DL.sFor_ap]
    exact ⟨by simp, by simp⟩
  rintro ρ S' ⟨rfl, rfl⟩
  refine WS_cut (fun ρ S' => ∃ (mvs : List Mv) (v10 v13 v14 : Option D), (mvs = mvsU e R R.length ∧ mvs.length ≤ 10000 ∧ ∀ x ∈ mvs, Mv.o x < R.length ∧ x.t < R.length) ∧ S' = S ++ (TM e Pp R st en ++ [dL (mvs.map Mv.py)]) ∧ ρ = RM S.length e Ll v8 (some (.ob (S.length + 5))) v10 v11 v12 v13 v14) ?_ ?_
  · have bn : big62 (R.length : Int) = true := big62_nat (by omega)
    simp -implicitDefEqProofs only [DL.wpW, reduceIte, Nat.reduceAdd, Nat.reduceLeDiff, DL.sFor_ap, tg, List.length_map, bn, Int.toNat_natCast, List.cons_append, List.nil_append]
    exact WS_mono (mach_moves hn hc M) (fun ρ S' h => h) (fun _ _ z => z.elim) (fun _ _ z => z.elim) (fun _ _ z => z.elim) (fun _ _ _ z => z.elim)
  rintro ρ S' ⟨mvs, v10, v13, v14, ⟨hme, hml, hmv⟩, rfl, rfl⟩
  have g1 := gToTup_d (l := bD en) (S := S ++ (TM e Pp R st en ++ [dL (mvs.map Mv.py)])) (n := S.length + 4) tg
  have g2 := gToTup_d (l := mvs.map Mv.py) (S := S ++ (TM e Pp R st en ++ [dL (mvs.map Mv.py)])) (n := S.length + 5) tg
  simp -implicitDefEqProofs only [DL.wpW, reduceIte, Nat.reduceAdd, Nat.reduceLeDiff, DL.sFor_ap, g1, g2]
  have E1 : machE e = en := by rw [M.ee, M.er]; rfl
  have E2 : machM e = mvs := by rw [hme, M.er]; rfl
  rw [E1, E2]
  exact ⟨_, by trivial, rfl⟩
end
end My

namespace My
open PySem PySem.Spec PyProof.Rows L2 DL
/-! ### the program's machines -/
theorem prodL_snoc {as bs : List Nat} {i a : Nat} (h : as[i]? = some a) : prodL (as.take (i + 1)) bs = prodL (as.take i) bs ++ bs.map fun b => (a, b) := by
  rw [List.take_succ, h]
  simp [prodL, List.flatMap_append]

theorem okL_some {r : Option (List PyData × Sto)} {P : List PyData → Sto → Prop} {E : Xc → Sto → Prop} (h : WE (okL r) (fun d S => ∃ l, d = .lst l ∧ P l S) E) : ∃ l S, r = some (l, S) ∧ P l S := by
  cases r with
  | none => exact h.elim
  | some p =>
    obtain ⟨l, S⟩ := p
    obtain ⟨l', e, q⟩ := h
    cases e
    exact ⟨l, S, rfl, q⟩
theorem WE_lc2 {g : GD} {c : BD} {i1 : DL.Env → Sto → Rs (PyData × List PyData)} {inner : DL.Env → List D → List PyData → Sto → Option (List PyData × Sto)} {chk : Sto → Prop} {vs1 : List Nat} {ρ0 : DL.Env} {Q : D → Sto → Prop} {E : Xc → Sto → Prop} (I : Nat → List PyData → Sto → Prop) :
    ∀ (ds : List D) (k : Nat) (acc : List PyData) (S : Sto), I k acc S →
    (∀ i d acc S, ds[i]? = some d → I (k + i) acc S → WE (g d ρ0 S) (fun ρ1 S1 => WE (c ρ1 S1) (fun b S2 => if b = true then WE (i1 ρ1 S2) (fun l S3 => ∃ acc' S4, inner (wipeE ρ1 vs1) (l.2.map .p) acc S3 = some (acc', S4) ∧ chk S4 ∧ I (k + i + 1) acc' S4) (fun _ _ => False) else chk S2 ∧ I (k + i + 1) acc S2) (fun _ _ => False)) (fun _ _ => False)) →
    (∀ acc S, I (k + ds.length) acc S → Q (.lst acc) S) → WE (okL (lc2L g c i1 inner chk vs1 ρ0 ds acc S)) Q E
  | [], k, acc, S, h0, _, hn => hn acc S h0
  | d :: ds, k, acc, S, h0, hs, hn => by
    have q := hs 0 d acc S rfl h0
    have ih := fun acc2 S2 h => WE_lc2 (g := g) (c := c) (i1 := i1) (inner := inner) (chk := chk) (vs1 := vs1) (ρ0 := ρ0) (Q := Q) (E := E) I ds (k + 1) acc2 S2 h (fun i d ρ S e h => by
        have := hs (i + 1) d ρ S e (by rw [show k + (i + 1) = k + 1 + i by omega]; exact h)
        rw [show k + (i + 1) = k + 1 + i by omega] at this
        exact this) (fun ρ S h => hn ρ S (by rw [List.length_cons, show k + (ds.length + 1) = k + 1 + ds.length by omega]; exact h))
    unfold lc2L
    cases e : g d ρ0 S with
    | st => rw [e] at q; exact q.elim
    | ex x S1 => rw [e] at q; exact q.elim
    | ok ρ1 S1 =>
      rw [e] at q
      have q : WE (c ρ1 S1) _ _ := q
      dsimp only
      cases e2 : c ρ1 S1 with
      | st => rw [e2] at q; exact q.elim
      | ex x S1 => rw [e2] at q; exact q.elim
      | ok b S2 =>
        rw [e2] at q
        cases b with
        | false =>
          have q : chk S2 ∧ _ := q
          dsimp only
          rw [if_pos q.1]
          exact ih _ _ q.2
        | true =>
          have q : WE (i1 ρ1 S2) _ _ := q
          dsimp only
          cases e3 : i1 ρ1 S2 with
          | st => rw [e3] at q; exact q.elim
          | ex x S1 => rw [e3] at q; exact q.elim
          | ok l S3 =>
            rw [e3] at q
            obtain ⟨acc', S4, h1, h2, h3⟩ := q
            dsimp only
            rw [h1]
            dsimp only
            rw [if_pos h2]
            exact ih _ _ h3
theorem eLc2_ap {fi : DL.Env → Sto → Rs IDt} {g g1 : GD} {c c1 : BD} {i1 : DL.Env → Sto → Rs (PyData × List PyData)} {f : ED} {vs vs1 : List Nat} {ρ : DL.Env} {S : Sto} : eLc2 fi g c i1 g1 c1 f vs vs1 ρ S = (fi ρ S).bind fun d S1 => okL (lc2L g c i1 (lcL g1 c1 f (fun _ => True)) d.2 vs1 (wipeE ρ vs) d.1 [] S1) := rfl
section
variable {S : Sto} {Q : D → Sto → Prop} {E : Xc → Sto → Prop}
theorem iFzL_ap {f : ED} {ρ : DL.Env} {S : Sto} {l : List PyData} (h : f ρ S = .ok (.p (.list l)) S) : iFzL f ρ S = .ok (.list l, l) S := by
  unfold iFzL
  rw [h]
  rfl
theorem all_pairs_wp {as bs : List Nat} (hc : ClS 0 S) (hn : as.length * bs.length < 10000) (q : Q (.p (.list ((prodL as bs).map pD))) S) : WE (G_all_pairs [.p (.list (iLs as)), .p (.list (iLs bs))] S) Q E := by
  refine WE_def (fun d S' => d = .p (.list ((prodL as bs).map pD)) ∧ S' = S) ?_ (fun d S' ⟨e1, e2⟩ => ⟨_, S, [], e1, by rw [e2, List.append_nil], rfl, hc, q⟩)
  rw [show start0 NN_all_pairs [.p (.list (iLs as)), .p (.list (iLs bs))] = [some (.p (.list (iLs as))), some (.p (.list (iLs bs))), none, none] from rfl]
  unfold B_all_pairs
  simp -implicitDefEqProofs only [DL.wpW, reduceIte, Nat.reduceAdd, Nat.reduceLeDiff, DL.sFor_ap, eLc2_ap]
  rw [show wipeE [some (D.p (.list (iLs as))), some (D.p (.list (iLs bs))), none, none] [2, 3] = [some (D.p (.list (iLs as))), some (D.p (.list (iLs bs))), none, none] from rfl]
  refine WE_lc2 (fun i acc S' => S' = S ∧ acc = (prodL (as.take i) bs).map pD) _ 0 _ _ ⟨rfl, by simp [prodL]⟩ ?_ ?_
  · rintro i d acc S' hd ⟨rfl, rfl⟩
    rw [List.map_map, List.getElem?_map] at hd
    cases ea : as[i]? with
    | none => rw [ea] at hd; cases hd
    | some a =>
      rw [ea] at hd
      cases hd
      have hi : i < as.length := (List.getElem?_eq_some_iff.mp ea).1
      rw [Nat.zero_add]
      simp only [gNm_ap, WE_ok, bYes_ap, if_true, List.set_cons_succ, List.set_cons_zero, Function.comp_apply]
      rw [iFzL_ap (l := iLs bs) rfl]
      have hb : (prodL (as.take i) bs).length + bs.length ≤ as.length * bs.length := by
        rw [prodL_len, List.length_take, ← Nat.succ_mul]
        exact Nat.mul_le_mul_right _ (by omega)
      simp only [WE_ok]
      obtain ⟨l, S2, h1, rfl, h2⟩ := okL_some (r := lcL (gNm 3) bYes (eTup (aCons (eVar 2) (aCons (eVar 3) aNil))) (fun _ => True) (wipeE [some (D.p (.list (iLs as))), some (D.p (.list (iLs bs))), some (.int (a : Nat)), none] [3]) (List.map D.p (iLs bs)) ((prodL (as.take i) bs).map pD) S') (P := fun l S2 => l = (prodL (as.take i) bs).map pD ++ (bs.map fun b => pD (a, b)) ∧ S2 = S') (E := fun _ _ => False) (by
        rw [show wipeE [some (D.p (.list (iLs as))), some (D.p (.list (iLs bs))), some (.int (a : Nat)), none] [3] = [some (D.p (.list (iLs as))), some (D.p (.list (iLs bs))), some (.int (a : Nat)), none] from rfl]
        refine WE_lc (fun j acc S2 => acc = (prodL (as.take i) bs).map pD ++ ((bs.take j).map fun b => pD (a, b)) ∧ S2 = S') _ 0 _ _ ⟨by simp, rfl⟩ ?_ ?_
        · rintro j d acc S2 hd ⟨rfl, rfl⟩
          rw [List.map_map, List.getElem?_map] at hd
          cases eb : bs[j]? with
          | none => rw [eb] at hd; cases hd
          | some b =>
            rw [eb] at hd
            cases hd
            have hj : j < bs.length := (List.getElem?_eq_some_iff.mp eb).1
            rw [Nat.zero_add, List.take_succ, eb]
            simp -implicitDefEqProofs only [DL.wpW, reduceIte, Nat.reduceAdd, Nat.reduceLeDiff, DL.sFor_ap, Function.comp_apply]
            refine ⟨_, _, rfl, ?_, trivial, by simp [pD], by trivial⟩
            rw [List.length_append, List.length_map, List.length_map, List.length_take]
            omega
        · rintro acc S2 ⟨rfl, rfl⟩
          rw [List.length_map, List.length_map, Nat.zero_add, List.take_length]
          exact ⟨_, rfl, rfl, rfl⟩)
      refine ⟨_, _, h1, trivial, h2, ?_⟩
      rw [prodL_snoc ea, List.map_append, List.map_map]
      rfl
  · rintro acc S' ⟨rfl, rfl⟩
    rw [List.length_map, List.length_map, Nat.zero_add, List.take_length]
    simp -implicitDefEqProofs only [DL.wpW, reduceIte, Nat.reduceAdd, Nat.reduceLeDiff, DL.sFor_ap]
    all_goals exact ⟨by trivial, by trivial⟩
end
end My

namespace My
open PySem PySem.Spec PyProof.Rows L2 DL
/-! ### list_places, outline -/
abbrev L2w : List PyData := [.str "sequence", .str "choice"]
theorem l2v : SeqAt.shaped (.tuple L2w) = true := by decide +kernel
theorem o2 : (L2w.any fun z => PyData.eqv z (.str "sequence")) = true := by decide +kernel
theorem o3 : (L2w.any fun z => PyData.eqv z (.str "choice")) = true := by decide +kernel
theorem o4 : (L2w.any fun z => PyData.eqv z (.str "any")) = false := by decide +kernel
theorem o5 : (L2w.any fun z => PyData.eqv z (.str "some")) = false := by decide +kernel
theorem o6 : (L2w.any fun z => PyData.eqv z (.str "maybe")) = false := by decide +kernel
theorem m4 : (Str.ofString "any" == Str.ofString "choice") = false := by decide +kernel
theorem m5 : (Str.ofString "some" == Str.ofString "choice") = false := by decide +kernel
theorem m6 : (Str.ofString "maybe" == Str.ofString "choice") = false := by decide +kernel
theorem n4 : (Str.ofString "any" == Str.ofString "maybe") = false := by decide +kernel
theorem n5 : (Str.ofString "some" == Str.ofString "maybe") = false := by decide +kernel
theorem n7 : (Str.ofString "some" == Str.ofString "any") = false := by decide +kernel
mutual
theorem Ex.lenP : ∀ (e : Ex) (k : Nat), (e.out k).P.length ≤ e.cnt * e.cnt * (e.dep + 1)
  | .pl .., k => Nat.zero_le _
  | .sq l, k => by
    have h := Its.lenS l k 0 sq0 (l.dep + 1) (Nat.le_refl _) (Nat.le_refl _) (Nat.zero_le _)
    rw [Nat.zero_add] at h
    have h2 : l.cnt * l.cnt * (l.dep + 1) ≤ l.cnt * l.cnt * (l.dep + 1 + 1) := Nat.mul_le_mul_left _ (by omega)
    show ((l.outs k).foldl sqS sq0).P.length ≤ l.cnt * l.cnt * (l.dep + 1 + 1)
    omega
  | .ch l, k => by
    have h := Its.lenC l k 0 ch0 (l.dep + 1) (Nat.le_refl _) (Nat.zero_le _)
    rw [Nat.zero_add] at h
    have h2 : l.cnt * l.cnt * (l.dep + 1) ≤ l.cnt * l.cnt * (l.dep + 1 + 1) := Nat.mul_le_mul_left _ (by omega)
    show ((l.outs k).foldl chS ch0).P.length ≤ l.cnt * l.cnt * (l.dep + 1 + 1)
    omega
  | .an a, k => by
    have h := a.lenP k
    have ho := a.out_ok k
    have hm := Nat.mul_le_mul ho.lL ho.lF
    show ((a.out k).P ++ prodL (a.out k).L (a.out k).F).length ≤ a.cnt * a.cnt * (a.dep + 1 + 1)
    rw [List.length_append, prodL_len, Nat.mul_add _ (a.dep + 1) 1]
    omega
  | .so a, k => by
    have h := a.lenP k
    have ho := a.out_ok k
    have hm := Nat.mul_le_mul ho.lL ho.lF
    show ((a.out k).P ++ prodL (a.out k).L (a.out k).F).length ≤ a.cnt * a.cnt * (a.dep + 1 + 1)
    rw [List.length_append, prodL_len, Nat.mul_add _ (a.dep + 1) 1]
    omega
  | .mb a, k => by
    have h := a.lenP k
    show (a.out k).P.length ≤ a.cnt * a.cnt * (a.dep + 1 + 1)
    rw [Nat.mul_add _ (a.dep + 1) 1]
    omega
theorem Its.lenS : ∀ (l : Its) (k n : Nat) (acc : Ou) (D : Nat), l.dep + 1 ≤ D → acc.L.length ≤ n → acc.P.length ≤ n * n * D → ((l.outs k).foldl sqS acc).P.length ≤ (n + l.cnt) * (n + l.cnt) * D
  | .nil, k, n, acc, D, hD, hL, hP => hP
  | .cons a l, k, n, acc, D, hD, hL, hP => by
    rw [Its.dep] at hD
    have h1 := a.lenP k
    have ho := a.out_ok k
    have hm := Nat.mul_le_mul hL ho.lF
    have h2 : a.cnt * a.cnt * (a.dep + 1) ≤ a.cnt * a.cnt * D := Nat.mul_le_mul_left _ (by omega)
    have e1 : (n + a.cnt) * (n + a.cnt) * D = n * n * D + a.cnt * a.cnt * D + n * a.cnt * (2 * D) := by grind
    have h3 : n * a.cnt * 1 ≤ n * a.cnt * (2 * D) := Nat.mul_le_mul_left _ (by omega)
    have hl : (sqS acc (a.out k)).L.length ≤ n + a.cnt := by
      show (if (a.out k).b = true then acc.L ++ (a.out k).L else (a.out k).L).length ≤ _
      have := ho.lL
      split
      · rw [List.length_append]; omega
      · omega
    have hp : (sqS acc (a.out k)).P.length ≤ (n + a.cnt) * (n + a.cnt) * D := by
      show (acc.P ++ (a.out k).P ++ prodL acc.L (a.out k).F).length ≤ _
      rw [List.length_append, List.length_append, prodL_len]
      omega
    have := Its.lenS l (k + a.cnt) (n + a.cnt) (sqS acc (a.out k)) D (by omega) hl hp
    rw [Its.cnt, ← Nat.add_assoc]
    exact this
theorem Its.lenC : ∀ (l : Its) (k n : Nat) (acc : Ou) (D : Nat), l.dep + 1 ≤ D → acc.P.length ≤ n * n * D → ((l.outs k).foldl chS acc).P.length ≤ (n + l.cnt) * (n + l.cnt) * D
  | .nil, k, n, acc, D, hD, hP => hP
  | .cons a l, k, n, acc, D, hD, hP => by
    rw [Its.dep] at hD
    have h1 := a.lenP k
    have h2 : a.cnt * a.cnt * (a.dep + 1) ≤ a.cnt * a.cnt * D := Nat.mul_le_mul_left _ (by omega)
    have e1 : (n + a.cnt) * (n + a.cnt) * D = n * n * D + a.cnt * a.cnt * D + n * a.cnt * (2 * D) := by grind
    have hp : (chS acc (a.out k)).P.length ≤ (n + a.cnt) * (n + a.cnt) * D := by
      show (acc.P ++ (a.out k).P).length ≤ _
      rw [List.length_append]
      omega
    have := Its.lenC l (k + a.cnt) (n + a.cnt) (chS acc (a.out k)) D (by omega) hp
    rw [Its.cnt, ← Nat.add_assoc]
    exact this
end
theorem Ex.short {e : Ex} (h1 : e.cnt ≤ 8) (h2 : e.dep < 6) (k : Nat) : (e.out k).F.length ≤ 8 ∧ (e.out k).L.length ≤ 8 ∧ (e.out k).P.length ≤ 384 := by
  have ho := e.out_ok k
  have h3 := e.lenP k
  have b1 : e.cnt * e.cnt ≤ 8 * 8 := Nat.mul_le_mul h1 h1
  have b2 : e.cnt * e.cnt * (e.dep + 1) ≤ 8 * 8 * 6 := Nat.mul_le_mul b1 (by omega)
  have := ho.lF
  have := ho.lL
  omega
section
variable {S : Sto} {Q : D → Sto → Prop} {E : Xc → Sto → Prop}
theorem gExt_at {S T : Sto} {l m : List PyData} (hl : l.length + m.length ≤ sizeLine) : gExt (.ob S.length) [.p (.list m)] (S ++ dL l :: T) = .ok .non (S ++ dL (l ++ m) :: T) := by
  have e1 : vList (S ++ dL l :: T) (.p (.list m)) = some m := rfl
  have e2 : (S ++ dL l :: T)[S.length]? = some (dL l) := by rw [List.getElem?_append_right (Nat.le_refl _), Nat.sub_self]; rfl
  have e3 : oLst (S ++ dL l :: T) (.ob S.length) = some (S.length, l.map .p) := by
    unfold oLst
    simp only [e2]
  unfold gExt
  simp only [e1, e3, List.length_map]
  rw [if_pos hl, List.set_append_right _ _ (Nat.le_refl _), Nat.sub_self]
  simp
theorem isL_at {S T : Sto} {l : List PyData} : isLst (S ++ dL l :: T) (.ob S.length) = true := by
  have e2 : (S ++ dL l :: T)[S.length]? = some (dL l) := by rw [List.getElem?_append_right (Nat.le_refl _), Nat.sub_self]; rfl
  unfold isLst
  simp only [e2]
abbrev plP (e : Ex) : PyData := .list (e.plc.map Pl4.py)
theorem rest_top {S : Sto} {l : List PyData} : restD (.ob S.length) (S ++ [dL l]) = some (.list l, S ++ [.fz l]) := by
  unfold restD
  simp only [tg0]
  show (pAll (l.map D.p)).map _ = _
  rw [pAll_map, Option.map_some, ts0]
  rfl
abbrev PlS (e : Ex) : Prop := ∀ (f : Nat) {S : Sto} {Q : D → Sto → Prop} {E : Xc → Sto → Prop}, e.dep < f → e.cnt < 100000 → ClS 0 S → Q (.p (plP e)) S → WE (G_list_places f [.p e.py] S) Q E
theorem places_node {w : Str} {e : Ex} {xs : List Ex} (nd : Nd w e xs) (h1 : (w == Str.ofString "place") = false) (h2 : SeqAt.shaped (.str w) = true) (h3 : (L2w.any fun z => PyData.eqv z (.str w)) = true) (H : ∀ a ∈ xs, PlS a) : PlS e := by
  intro f S Q E hf hcn hc q
  obtain ⟨f, rfl⟩ : ∃ f', f = f' + 1 := ⟨f - 1, by omega⟩
  have hce := nd.cnt
  refine WE_def (fun d S' => d = .p (plP e) ∧ ∃ T, S' = S ++ T) ?_ (fun d S' ⟨e1, T, e2⟩ => ⟨_, S, T, e1, e2, rfl, hc, q⟩)
  rw [show start0 NN_list_places [.p e.py] = [some (.p e.py), none, none] from rfl]
  unfold B_list_places
  have p0 : ∀ S : Sto, gIx (.p e.py) (.p (.int 0)) S = .ok (.str w) S := fun S => by rw [nd.py]; rfl
  have p1 : ∀ S : Sto, gIx (.p e.py) (.p (.int 1)) S = .ok (.p (.tuple (xs.map Ex.py))) S := fun S => by rw [nd.py]; rfl
  simp -implicitDefEqProofs only [DL.wpW, reduceIte, Nat.reduceAdd, Nat.reduceLeDiff, DL.sFor_ap, p0, p1, h1, inw h2 l2v, h3]
  refine WS_for (fun i ρ S' => ∃ v2, S' = S ++ [dL (((xs.take i).flatMap Ex.plc).map Pl4.py)] ∧ ρ = [some (.p e.py), some (.ob S.length), v2]) _ 0 _ _ ⟨none, rfl, rfl⟩ ?_ ?_
  · rintro i d ρ S' hd ⟨v2, rfl, rfl⟩
    rw [List.map_map, List.getElem?_map] at hd
    cases er : xs[i]? with
    | none => rw [er] at hd; cases hd
    | some a =>
      rw [er] at hd
      cases hd
      have ha := List.mem_of_getElem? er
      have hle := cntL_le er
      have hdp := nd.dep a ha
      have hpl := plc_take (xs.take i)
      have hal := a.plc_len
      rw [Nat.zero_add, flat_take er]
      simp -implicitDefEqProofs only [DL.wpW, reduceIte, Nat.reduceAdd, Nat.reduceLeDiff, DL.sFor_ap, Function.comp_apply, tg0]
      refine H a ha f (by omega) (by omega) (clS_app hc (clS_one clO_p)) ?_
      have g := gExt_at (S := S) (T := []) (l := ((xs.take i).flatMap Ex.plc).map Pl4.py) (m := a.plc.map Pl4.py) (by rw [List.length_map, List.length_map, sizeLine_eq, hpl]; omega)
      simp -implicitDefEqProofs only [DL.wpW, reduceIte, Nat.reduceAdd, Nat.reduceLeDiff, DL.sFor_ap, g]
      exact ⟨by trivial, _, by rw [List.map_append], rfl⟩
  · rintro ρ S' ⟨v2, rfl, rfl⟩
    rw [List.length_map, List.length_map, Nat.zero_add, List.take_length]
    simp -implicitDefEqProofs only [DL.wpW, reduceIte, Nat.reduceAdd, Nat.reduceLeDiff, DL.sFor_ap, rest_top]
    exact ⟨by unfold plP; rw [nd.plc], _, rfl⟩
theorem places_wp : ∀ e : Ex, e.fin → PlS e := by
  have one : ∀ (a e : Ex) (w : Str), e.py = .tuple [.str w, a.py] → (w == Str.ofString "place") = false → SeqAt.shaped (.str w) = true → (L2w.any fun z => PyData.eqv z (.str w)) = false → e.dep = a.dep + 1 → e.cnt = a.cnt → e.plc = a.plc → PlS a → PlS e := by
    intro a e w hpy h1 h2 h3 hdp hcn hpl H f S Q E hf hcn2 hc q
    obtain ⟨f, rfl⟩ : ∃ f', f = f' + 1 := ⟨f - 1, by omega⟩
    refine WE_def (fun d S' => d = .p (plP e) ∧ S' = S) ?_ (fun d S' ⟨e1, e2⟩ => ⟨_, S, [], e1, by rw [e2, List.append_nil], rfl, hc, q⟩)
    rw [show start0 NN_list_places [.p e.py] = [some (.p e.py), none, none] from rfl]
    unfold B_list_places
    have p0 : ∀ S : Sto, gIx (.p e.py) (.p (.int 0)) S = .ok (.str w) S := fun S => by rw [hpy]; rfl
    have p1 : ∀ S : Sto, gIx (.p e.py) (.p (.int 1)) S = .ok (.p a.py) S := fun S => by rw [hpy]; rfl
    simp -implicitDefEqProofs only [DL.wpW, reduceIte, Nat.reduceAdd, Nat.reduceLeDiff, DL.sFor_ap, p0, p1, h1, inw h2 l2v, h3]
    refine H f (by omega) (by omega) hc ?_
    try simp -implicitDefEqProofs only [DL.wpW, reduceIte, Nat.reduceAdd, Nat.reduceLeDiff, DL.sFor_ap]
    exact ⟨by unfold plP; rw [hpl], by trivial⟩
  refine Ex.ind ?_ ?_ ?_ ?_ ?_ ?_
  · intro p lo hi c _ f S Q E hf hcn hc q
    obtain ⟨f, rfl⟩ : ∃ f', f = f' + 1 := ⟨f - 1, by omega⟩
    refine WE_def (fun d S' => d = .p (plP (.pl p lo hi c)) ∧ S' = S) ?_ (fun d S' ⟨e1, e2⟩ => ⟨_, S, [], e1, by rw [e2, List.append_nil], rfl, hc, q⟩)
    rw [show start0 NN_list_places [.p (Ex.pl p lo hi c).py] = [some (.p (Ex.pl p lo hi c).py), none, none] from rfl]
    unfold B_list_places
    have p0 : ∀ S : Sto, gIx (.p (Ex.pl p lo hi c).py) (.p (.int 0)) S = .ok (.str (Str.ofString "place")) S := fun S => rfl
    simp -implicitDefEqProofs only [DL.wpW, reduceIte, Nat.reduceAdd, Nat.reduceLeDiff, DL.sFor_ap, p0, beq_self_eq_true]
    exact ⟨by simp [Ex.plc, Pl4.py], by trivial⟩
  · intro l H hfi
    exact places_node (nd_sq l (fin_sq hfi).1) e2 ws2 o2 fun a h => H a h ((fin_sq hfi).2 a h)
  · intro l H hfi
    exact places_node (nd_ch l (fin_ch hfi).1) e3 ws3 o3 fun a h => H a h ((fin_ch hfi).2 a h)
  · intro a iha hfi
    exact one a (.an a) (Str.ofString "any") (by rw [Ex.py]) e4 ws4 o4 dep_1.1 (by rw [Ex.cnt]) (by rw [Ex.plc]) (iha (fin_1.1.mp hfi))
  · intro a iha hfi
    exact one a (.so a) (Str.ofString "some") (by rw [Ex.py]) e5 ws5 o5 dep_1.2.1 (by rw [Ex.cnt]) (by rw [Ex.plc]) (iha (fin_1.2.1.mp hfi))
  · intro a iha hfi
    exact one a (.mb a) (Str.ofString "maybe") (by rw [Ex.py]) e6 ws6 o6 dep_1.2.2 (by rw [Ex.cnt]) (by rw [Ex.plc]) (iha (fin_1.2.2.mp hfi))
end
end My

namespace My
open PySem PySem.Spec PyProof.Rows L2 DL
theorem cnt_mem {xs : List Ex} {a : Ex} (h : a ∈ xs) : a.cnt ≤ cntL xs := by
  obtain ⟨i, hi, e⟩ := List.mem_iff_getElem.mp h
  have := cntL_le (l := xs) (i := i) (a := a) (by rw [List.getElem?_eq_getElem hi, e])
  omega
theorem ofs_take : ∀ (xs : List Ex) (k i : Nat), ofs (xs.take i) k = (ofs xs k).take i
  | xs, k, 0 => by simp [ofs]
  | [], k, i + 1 => rfl
  | a :: xs, k, i + 1 => by
    show (a, k) :: ofs (xs.take i) (k + a.cnt) = (a, k) :: (ofs xs (k + a.cnt)).take i
    rw [ofs_take xs]
abbrev sqO (xs : List Ex) (k : Nat) : Ou := (outsL xs k).foldl sqS sq0
abbrev chO (xs : List Ex) (k : Nat) : Ou := (outsL xs k).foldl chS ch0
theorem outs_snoc {xs : List Ex} {k i : Nat} {a : Ex} (h : xs[i]? = some a) : outsL (xs.take (i + 1)) k = outsL (xs.take i) k ++ [a.out (k + cntL (xs.take i))] := by
  have e := ofs_at xs k i a h
  show (ofs (xs.take (i + 1)) k).map _ = (ofs (xs.take i) k).map _ ++ _
  rw [ofs_take, ofs_take, List.take_succ, e, List.map_append]
  rfl
theorem sqO_snoc {xs : List Ex} {k i : Nat} {a : Ex} (h : xs[i]? = some a) : sqO (xs.take (i + 1)) k = sqS (sqO (xs.take i) k) (a.out (k + cntL (xs.take i))) := by
  show List.foldl _ _ _ = _
  rw [outs_snoc h, List.foldl_append]
  rfl
theorem chO_snoc {xs : List Ex} {k i : Nat} {a : Ex} (h : xs[i]? = some a) : chO (xs.take (i + 1)) k = chS (chO (xs.take i) k) (a.out (k + cntL (xs.take i))) := by
  show List.foldl _ _ _ = _
  rw [outs_snoc h, List.foldl_append]
  rfl
/-- what is gathered so far is short -/
theorem sqO_short {xs : List Ex} {k : Nat} (hc : cntL xs ≤ 8) (hd : ∀ a ∈ xs, Ex.dep a ≤ 4) : (sqO xs k).F.length ≤ 8 ∧ (sqO xs k).L.length ≤ 8 ∧ (sqO xs k).P.length ≤ 384 := by
  have h := (Ex.sq (Its.ofL xs)).short (by rw [Ex.cnt, Its.cnt_eq, Its.to_of]; exact hc) (by rw [Ex.dep]; have := Its.dep_of xs 4 hd; omega) k
  rw [out_sq, Its.to_of] at h
  exact h
theorem chO_short {xs : List Ex} {k : Nat} (hc : cntL xs ≤ 8) (hd : ∀ a ∈ xs, Ex.dep a ≤ 4) : (chO xs k).F.length ≤ 8 ∧ (chO xs k).L.length ≤ 8 ∧ (chO xs k).P.length ≤ 384 := by
  have h := (Ex.ch (Its.ofL xs)).short (by rw [Ex.cnt, Its.cnt_eq, Its.to_of]; exact hc) (by rw [Ex.dep]; have := Its.dep_of xs 4 hd; omega) k
  rw [out_ch, Its.to_of] at h
  exact h
abbrev prP (l : List (Nat × Nat)) : PyData := .list (l.map pD)
abbrev outP (b : Bool) (F L : List Nat) (P : List (Nat × Nat)) : PyData := .tuple [.bool b, .list (iLs F), .list (iLs L), prP P]
abbrev ouP (o : Ou) : PyData := outP o.b o.F o.L o.P
section
variable {S : Sto} {Q : D → Sto → Prop} {E : Xc → Sto → Prop}
/-- what the head of the outlines promises of an expression -/
abbrev OutSpec (g : FD) (e : Ex) : Prop := ∀ (k : Nat) {S : Sto} {Q : D → Sto → Prop} {E : Xc → Sto → Prop}, ClS 0 S → Q (.p (ouP (e.out k))) S → WE (g [.p e.py, .int ((k + 1 : Nat) : Int)] S) Q E
abbrev SE (items : PyData) (num : Nat) (b : Bool) (F L : List Nat) (P : List (Nat × Nat)) (v2 v7 v8 v9 v10 : Option D) : DL.Env :=
  [some (.p items), some (.int ((num + 1 : Nat) : Int)), v2, some (.bl b), some (.p (.list (iLs F))), some (.p (.list (iLs L))), some (.p (prP P)), v7, v8, v9, v10]
theorem seq_body {g : FD} {e : Ex} {items : PyData} {num : Nat} {b : Bool} {F L : List Nat} {P : List (Nat × Nat)} {v7 v8 v9 v10 : Option D} (H : OutSpec g e) (hfin : e.fin) (h1 : e.cnt ≤ 8) (h2 : e.dep < 6) (hc : ClS 0 S) (hF : F.length < 1000) (hL : L.length < 100) (hP : P.length < 10000) :
    WS ((sSeq (sAsg (eCall 2 g (aCons (eVar 2) (aCons (eVar 1) (aNil)))) (gTupD 4 (gsCons (gNm 7) (gsCons (gNm 8) (gsCons (gNm 9) (gsCons (gNm 10) (gsNil))))))) (sSeq (sSet 6 (eBin gAdd (eBin gAdd (eVar 6) (eVar 10)) (eCall 2 G_all_pairs (aCons (eVar 5) (aCons (eVar 8) (aNil)))))) (sSeq (sIf (bTru (eVar 3)) (sSet 4 (eBin gAdd (eVar 4) (eVar 8))) (sNil)) (sSeq (sSet 5 (eIf (bTru (eVar 7)) (eBin gAdd (eVar 5) (eVar 9)) (eVar 9))) (sSeq (sSet 3 (eAnd (eVar 3) (eVar 7))) (sAug 1 (eB gLen (aCons (eCall 1 (G_list_places 6) (aCons (eVar 2) (aNil))) (aNil))) gAddI))))))
      (SE items num b F L P (some (.p e.py)) v7 v8 v9 v10) S)
      (Qn fun ρ S' => S' = S ∧ ∃ v7 v8 v9 v10, ρ = SE items (num + e.cnt) (b && (e.out num).b) (if b = true then F ++ (e.out num).F else F) (if (e.out num).b = true then L ++ (e.out num).L else (e.out num).L) (P ++ (e.out num).P ++ prodL L (e.out num).F) (some (.p e.py)) v7 v8 v9 v10) := by
  obtain ⟨s1, s2, s3⟩ := e.short h1 h2 num
  refine WS_cut (fun ρ S' => S' = S ∧ ρ = SE items num b F L P (some (.p e.py)) (some (.bl (e.out num).b)) (some (.p (.list (iLs (e.out num).F)))) (some (.p (.list (iLs (e.out num).L)))) (some (.p (prP (e.out num).P)))) ?_ ?_
  · simp -implicitDefEqProofs only [DL.wpW, reduceIte, Nat.reduceAdd, Nat.reduceLeDiff, DL.sFor_ap]
    refine H num hc ?_
    try simp -implicitDefEqProofs only [DL.wpW, reduceIte, Nat.reduceAdd, Nat.reduceLeDiff, DL.sFor_ap]
    all_goals exact ⟨by trivial, by trivial⟩
  rintro ρ S' ⟨rfl, rfl⟩
  refine WS_cut (fun ρ S1 => S1 = S' ∧ ρ = SE items num b F L (P ++ (e.out num).P ++ prodL L (e.out num).F) (some (.p e.py)) (some (.bl (e.out num).b)) (some (.p (.list (iLs (e.out num).F)))) (some (.p (.list (iLs (e.out num).L)))) (some (.p (prP (e.out num).P)))) ?_ ?_
  · have hz : L.length * (e.out num).F.length ≤ 100 * 8 := Nat.mul_le_mul (by omega) s1
    have z1 : P.length + (e.out num).P.length ≤ 16777216 := by omega
    simp -implicitDefEqProofs only [DL.wpW, reduceIte, Nat.reduceAdd, Nat.reduceLeDiff, DL.sFor_ap, List.length_map, z1]
    refine all_pairs_wp hc (by omega) ?_
    have z2 : P.length + (e.out num).P.length + L.length * (e.out num).F.length ≤ 16777216 := by omega
    simp -implicitDefEqProofs only [DL.wpW, reduceIte, Nat.reduceAdd, Nat.reduceLeDiff, DL.sFor_ap, List.length_append, List.length_map, prodL_len, z2]
    all_goals exact ⟨by trivial, by simp [prP]⟩
  rintro ρ S1 ⟨rfl, rfl⟩
  refine WS_cut (fun ρ S' => S' = S1 ∧ ρ = SE items num b (if b = true then F ++ (e.out num).F else F) L (P ++ (e.out num).P ++ prodL L (e.out num).F) (some (.p e.py)) (some (.bl (e.out num).b)) (some (.p (.list (iLs (e.out num).F)))) (some (.p (.list (iLs (e.out num).L)))) (some (.p (prP (e.out num).P)))) ?_ ?_
  · cases b with
    | true =>
      have z1 : F.length + (e.out num).F.length ≤ 16777216 := by omega
      simp -implicitDefEqProofs only [DL.wpW, reduceIte, Nat.reduceAdd, Nat.reduceLeDiff, DL.sFor_ap, List.length_map, z1, iLs_app]
      all_goals exact ⟨by trivial, by trivial⟩
    | false =>
      simp -implicitDefEqProofs only [DL.wpW, reduceIte, Nat.reduceAdd, Nat.reduceLeDiff, DL.sFor_ap]
      all_goals exact ⟨by trivial, by trivial⟩
  rintro ρ S' ⟨rfl, rfl⟩
  refine WS_cut (fun ρ S1 => S1 = S' ∧ ρ = SE items num b (if b = true then F ++ (e.out num).F else F) (if (e.out num).b = true then L ++ (e.out num).L else (e.out num).L) (P ++ (e.out num).P ++ prodL L (e.out num).F) (some (.p e.py)) (some (.bl (e.out num).b)) (some (.p (.list (iLs (e.out num).F)))) (some (.p (.list (iLs (e.out num).L)))) (some (.p (prP (e.out num).P)))) ?_ ?_
  · generalize (e.out num).b = en
    cases en with
    | true =>
      have z1 : L.length + (e.out num).L.length ≤ 16777216 := by omega
      simp -implicitDefEqProofs only [DL.wpW, reduceIte, Nat.reduceAdd, Nat.reduceLeDiff, DL.sFor_ap, List.length_map, z1, iLs_app]
      all_goals exact ⟨by trivial, by trivial⟩
    | false =>
      simp -implicitDefEqProofs only [DL.wpW, reduceIte, Nat.reduceAdd, Nat.reduceLeDiff, DL.sFor_ap]
      all_goals exact ⟨by trivial, by trivial⟩
  rintro ρ S1 ⟨rfl, rfl⟩
  refine WS_cut (fun ρ S' => S' = S1 ∧ ρ = SE items num (b && (e.out num).b) (if b = true then F ++ (e.out num).F else F) (if (e.out num).b = true then L ++ (e.out num).L else (e.out num).L) (P ++ (e.out num).P ++ prodL L (e.out num).F) (some (.p e.py)) (some (.bl (e.out num).b)) (some (.p (.list (iLs (e.out num).F)))) (some (.p (.list (iLs (e.out num).L)))) (some (.p (prP (e.out num).P)))) ?_ ?_
  · cases b with
    | true =>
      simp -implicitDefEqProofs only [DL.wpW, reduceIte, Nat.reduceAdd, Nat.reduceLeDiff, DL.sFor_ap, Bool.true_and]
      all_goals exact ⟨by trivial, by trivial⟩
    | false =>
      simp -implicitDefEqProofs only [DL.wpW, reduceIte, Nat.reduceAdd, Nat.reduceLeDiff, DL.sFor_ap, Bool.false_and]
      all_goals exact ⟨by trivial, by trivial⟩
  rintro ρ S' ⟨rfl, rfl⟩
  simp -implicitDefEqProofs only [DL.wpW, reduceIte, Nat.reduceAdd, Nat.reduceLeDiff, DL.sFor_ap]
  refine places_wp e hfin 6 h2 (by omega) hc ?_
  have z : ((num + 1 : Nat) : Int) + (e.cnt : Nat) = ((num + e.cnt + 1 : Nat) : Int) := by omega
  simp -implicitDefEqProofs only [DL.wpW, reduceIte, Nat.reduceAdd, Nat.reduceLeDiff, DL.sFor_ap, List.length_map, e.plc_len, z]
  exact ⟨by trivial, _, _, _, _, rfl⟩
theorem ch_body {g : FD} {e : Ex} {items : PyData} {num : Nat} {b : Bool} {F L : List Nat} {P : List (Nat × Nat)} {v7 v8 v9 v10 : Option D} (H : OutSpec g e) (hfin : e.fin) (h1 : e.cnt ≤ 8) (h2 : e.dep < 6) (hc : ClS 0 S) (hF : F.length < 1000) (hL : L.length < 100) (hP : P.length < 10000) :
    WS ((sSeq (sAsg (eCall 2 g (aCons (eVar 2) (aCons (eVar 1) (aNil)))) (gTupD 4 (gsCons (gNm 7) (gsCons (gNm 8) (gsCons (gNm 9) (gsCons (gNm 10) (gsNil))))))) (sSeq (sSet 3 (eOr (eVar 3) (eVar 7))) (sSeq (sSet 4 (eBin gAdd (eVar 4) (eVar 8))) (sSeq (sSet 5 (eBin gAdd (eVar 5) (eVar 9))) (sSeq (sSet 6 (eBin gAdd (eVar 6) (eVar 10))) (sAug 1 (eB gLen (aCons (eCall 1 (G_list_places 6) (aCons (eVar 2) (aNil))) (aNil))) gAddI))))))
      (SE items num b F L P (some (.p e.py)) v7 v8 v9 v10) S)
      (Qn fun ρ S' => S' = S ∧ ∃ v7 v8 v9 v10, ρ = SE items (num + e.cnt) (b || (e.out num).b) (F ++ (e.out num).F) (L ++ (e.out num).L) (P ++ (e.out num).P) (some (.p e.py)) v7 v8 v9 v10) := by
  obtain ⟨s1, s2, s3⟩ := e.short h1 h2 num
  refine WS_cut (fun ρ S' => S' = S ∧ ρ = SE items num b F L P (some (.p e.py)) (some (.bl (e.out num).b)) (some (.p (.list (iLs (e.out num).F)))) (some (.p (.list (iLs (e.out num).L)))) (some (.p (prP (e.out num).P)))) ?_ ?_
  · simp -implicitDefEqProofs only [DL.wpW, reduceIte, Nat.reduceAdd, Nat.reduceLeDiff, DL.sFor_ap]
    refine H num hc ?_
    try simp -implicitDefEqProofs only [DL.wpW, reduceIte, Nat.reduceAdd, Nat.reduceLeDiff, DL.sFor_ap]
    all_goals exact ⟨by trivial, by trivial⟩
  rintro ρ S' ⟨rfl, rfl⟩
  refine WS_cut (fun ρ S1 => S1 = S' ∧ ρ = SE items num (b || (e.out num).b) F L P (some (.p e.py)) (some (.bl (e.out num).b)) (some (.p (.list (iLs (e.out num).F)))) (some (.p (.list (iLs (e.out num).L)))) (some (.p (prP (e.out num).P)))) ?_ ?_
  · cases b with
    | true =>
      simp -implicitDefEqProofs only [DL.wpW, reduceIte, Nat.reduceAdd, Nat.reduceLeDiff, DL.sFor_ap, Bool.true_or]
      all_goals exact ⟨by trivial, by trivial⟩
    | false =>
      simp -implicitDefEqProofs only [DL.wpW, reduceIte, Nat.reduceAdd, Nat.reduceLeDiff, DL.sFor_ap, Bool.false_or]
      all_goals exact ⟨by trivial, by trivial⟩
  rintro ρ S1 ⟨rfl, rfl⟩
  have z1 : F.length + (e.out num).F.length ≤ 16777216 := by omega
  have z2 : L.length + (e.out num).L.length ≤ 16777216 := by omega
  have z3 : P.length + (e.out num).P.length ≤ 16777216 := by omega
  refine WS_cut (fun ρ S' => S' = S1 ∧ ρ = SE items num (b || (e.out num).b) (F ++ (e.out num).F) L P (some (.p e.py)) (some (.bl (e.out num).b)) (some (.p (.list (iLs (e.out num).F)))) (some (.p (.list (iLs (e.out num).L)))) (some (.p (prP (e.out num).P)))) ?_ ?_
  · simp -implicitDefEqProofs only [DL.wpW, reduceIte, Nat.reduceAdd, Nat.reduceLeDiff, DL.sFor_ap, List.length_map, z1, iLs_app]
    all_goals exact ⟨by trivial, by trivial⟩
  rintro ρ S' ⟨rfl, rfl⟩
  refine WS_cut (fun ρ S1 => S1 = S' ∧ ρ = SE items num (b || (e.out num).b) (F ++ (e.out num).F) (L ++ (e.out num).L) P (some (.p e.py)) (some (.bl (e.out num).b)) (some (.p (.list (iLs (e.out num).F)))) (some (.p (.list (iLs (e.out num).L)))) (some (.p (prP (e.out num).P)))) ?_ ?_
  · simp -implicitDefEqProofs only [DL.wpW, reduceIte, Nat.reduceAdd, Nat.reduceLeDiff, DL.sFor_ap, List.length_map, z2, iLs_app]
    all_goals exact ⟨by trivial, by trivial⟩
  rintro ρ S1 ⟨rfl, rfl⟩
  refine WS_cut (fun ρ S' => S' = S1 ∧ ρ = SE items num (b || (e.out num).b) (F ++ (e.out num).F) (L ++ (e.out num).L) (P ++ (e.out num).P) (some (.p e.py)) (some (.bl (e.out num).b)) (some (.p (.list (iLs (e.out num).F)))) (some (.p (.list (iLs (e.out num).L)))) (some (.p (prP (e.out num).P)))) ?_ ?_
  · simp -implicitDefEqProofs only [DL.wpW, reduceIte, Nat.reduceAdd, Nat.reduceLeDiff, DL.sFor_ap, List.length_map, z3]
    all_goals exact ⟨by trivial, by simp [prP]⟩
  rintro ρ S' ⟨rfl, rfl⟩
  simp -implicitDefEqProofs only [DL.wpW, reduceIte, Nat.reduceAdd, Nat.reduceLeDiff, DL.sFor_ap]
  refine places_wp e hfin 6 h2 (by omega) hc ?_
  have z : ((num + 1 : Nat) : Int) + (e.cnt : Nat) = ((num + e.cnt + 1 : Nat) : Int) := by omega
  simp -implicitDefEqProofs only [DL.wpW, reduceIte, Nat.reduceAdd, Nat.reduceLeDiff, DL.sFor_ap, List.length_map, e.plc_len, z]
  exact ⟨by trivial, _, _, _, _, rfl⟩
theorem oseq_wp {g : FD} {xs : List Ex} (H : ∀ a ∈ xs, OutSpec g a) (hfin : ∀ a ∈ xs, Ex.fin a) (h1 : cntL xs ≤ 8) (h2 : ∀ a ∈ xs, Ex.dep a ≤ 4) (k : Nat) (hc : ClS 0 S) (q : Q (.p (ouP (sqO xs k))) S) :
    WE (G_outline_of_sequence g [.p (.tuple (xs.map Ex.py)), .int ((k + 1 : Nat) : Int)] S) Q E := by
  refine WE_def (fun d S' => d = .p (ouP (sqO xs k)) ∧ S' = S) ?_ (fun d S' ⟨e1, e2⟩ => ⟨_, S, [], e1, by rw [e2, List.append_nil], rfl, hc, q⟩)
  rw [show start0 NN_outline_of_sequence [.p (.tuple (xs.map Ex.py)), .int ((k + 1 : Nat) : Int)] = [some (.p (.tuple (xs.map Ex.py))), some (.int ((k + 1 : Nat) : Int)), none, none, none, none, none, none, none, none, none] from rfl]
  unfold B_outline_of_sequence
  refine WS_cut (fun ρ S' => S' = S ∧ ρ = SE (.tuple (xs.map Ex.py)) k true [] [] [] none none none none none) ?_ ?_
  · simp -implicitDefEqProofs only [DL.wpW, reduceIte, Nat.reduceAdd, Nat.reduceLeDiff, DL.sFor_ap]
    all_goals exact ⟨by trivial, by trivial⟩
  rintro ρ S' ⟨e1, rfl⟩
  rw [e1]
  clear e1 S'
  refine WS_cut (fun ρ S1 => S1 = S ∧ ∃ v2 v7 v8 v9 v10, ρ = SE (.tuple (xs.map Ex.py)) (k + cntL xs) (sqO xs k).b (sqO xs k).F (sqO xs k).L (sqO xs k).P v2 v7 v8 v9 v10) ?_ ?_
  · simp -implicitDefEqProofs only [DL.wpW, reduceIte, Nat.reduceAdd, Nat.reduceLeDiff, DL.sFor_ap]
    refine WS_for (fun i ρ S1 => S1 = S ∧ ∃ v2 v7 v8 v9 v10, ρ = SE (.tuple (xs.map Ex.py)) (k + cntL (xs.take i)) (sqO (xs.take i) k).b (sqO (xs.take i) k).F (sqO (xs.take i) k).L (sqO (xs.take i) k).P v2 v7 v8 v9 v10) _ 0 _ _ ⟨rfl, none, none, none, none, none, rfl⟩ ?_ ?_
    · rintro i d ρ S1 hd ⟨e1, v2, v7, v8, v9, v10, rfl⟩
      rw [e1]
      clear e1 S1
      rw [List.map_map, List.getElem?_map] at hd
      cases er : xs[i]? with
      | none => rw [er] at hd; cases hd
      | some a =>
        rw [er] at hd
        cases hd
        have ha := List.mem_of_getElem? er
        have hle := cntL_le er
        have htk := cntL_take xs i
        have hda := h2 a ha
        obtain ⟨t1, t2, t3⟩ := sqO_short (xs := xs.take i) (k := k) (by omega) (fun x hx => h2 x (List.mem_of_mem_take hx))
        rw [Nat.zero_add, sqO_snoc er, cntL_snoc er, ← Nat.add_assoc]
        simp only [gNm_ap, WE_ok, List.set_cons_succ, List.set_cons_zero, Function.comp_apply]
        refine WS_mono (seq_body (items := .tuple (xs.map Ex.py)) (num := k + cntL (xs.take i)) (H a ha) (hfin a ha) (by omega) (by omega) hc (by omega) (by omega) (by omega)) (fun ρ S2 h => ?_) (fun _ _ z => z.elim) (fun _ _ z => z.elim) (fun _ _ z => z.elim) (fun _ _ _ z => z.elim)
        obtain ⟨e1, v7, v8, v9, v10, rfl⟩ := h
        exact ⟨trivial, e1, _, v7, v8, v9, v10, rfl⟩
    · rintro ρ S1 ⟨e1, v2, v7, v8, v9, v10, rfl⟩
      rw [List.length_map, List.length_map, Nat.zero_add, List.take_length]
      exact ⟨e1, v2, v7, v8, v9, v10, rfl⟩
  rintro ρ S1 ⟨e1, v2, v7, v8, v9, v10, rfl⟩
  rw [e1]
  clear e1 S1
  simp -implicitDefEqProofs only [DL.wpW, reduceIte, Nat.reduceAdd, Nat.reduceLeDiff, DL.sFor_ap]
  all_goals exact ⟨by trivial, by trivial⟩
theorem och_wp {g : FD} {xs : List Ex} (H : ∀ a ∈ xs, OutSpec g a) (hfin : ∀ a ∈ xs, Ex.fin a) (h1 : cntL xs ≤ 8) (h2 : ∀ a ∈ xs, Ex.dep a ≤ 4) (k : Nat) (hc : ClS 0 S) (q : Q (.p (ouP (chO xs k))) S) :
    WE (G_outline_of_choice g [.p (.tuple (xs.map Ex.py)), .int ((k + 1 : Nat) : Int)] S) Q E := by
  refine WE_def (fun d S' => d = .p (ouP (chO xs k)) ∧ S' = S) ?_ (fun d S' ⟨e1, e2⟩ => ⟨_, S, [], e1, by rw [e2, List.append_nil], rfl, hc, q⟩)
  rw [show start0 NN_outline_of_choice [.p (.tuple (xs.map Ex.py)), .int ((k + 1 : Nat) : Int)] = [some (.p (.tuple (xs.map Ex.py))), some (.int ((k + 1 : Nat) : Int)), none, none, none, none, none, none, none, none, none] from rfl]
  unfold B_outline_of_choice
  refine WS_cut (fun ρ S' => S' = S ∧ ρ = SE (.tuple (xs.map Ex.py)) k false [] [] [] none none none none none) ?_ ?_
  · simp -implicitDefEqProofs only [DL.wpW, reduceIte, Nat.reduceAdd, Nat.reduceLeDiff, DL.sFor_ap]
    all_goals exact ⟨by trivial, by trivial⟩
  rintro ρ S' ⟨e1, rfl⟩
  rw [e1]
  clear e1 S'
  refine WS_cut (fun ρ S1 => S1 = S ∧ ∃ v2 v7 v8 v9 v10, ρ = SE (.tuple (xs.map Ex.py)) (k + cntL xs) (chO xs k).b (chO xs k).F (chO xs k).L (chO xs k).P v2 v7 v8 v9 v10) ?_ ?_
  · simp -implicitDefEqProofs only [DL.wpW, reduceIte, Nat.reduceAdd, Nat.reduceLeDiff, DL.sFor_ap]
    refine WS_for (fun i ρ S1 => S1 = S ∧ ∃ v2 v7 v8 v9 v10, ρ = SE (.tuple (xs.map Ex.py)) (k + cntL (xs.take i)) (chO (xs.take i) k).b (chO (xs.take i) k).F (chO (xs.take i) k).L (chO (xs.take i) k).P v2 v7 v8 v9 v10) _ 0 _ _ ⟨rfl, none, none, none, none, none, rfl⟩ ?_ ?_
    · rintro i d ρ S1 hd ⟨e1, v2, v7, v8, v9, v10, rfl⟩
      rw [e1]
      clear e1 S1
      rw [List.map_map, List.getElem?_map] at hd
      cases er : xs[i]? with
      | none => rw [er] at hd; cases hd
      | some a =>
        rw [er] at hd
        cases hd
        have ha := List.mem_of_getElem? er
        have hle := cntL_le er
        have htk := cntL_take xs i
        have hda := h2 a ha
        obtain ⟨t1, t2, t3⟩ := chO_short (xs := xs.take i) (k := k) (by omega) (fun x hx => h2 x (List.mem_of_mem_take hx))
        rw [Nat.zero_add, chO_snoc er, cntL_snoc er, ← Nat.add_assoc]
        simp only [gNm_ap, WE_ok, List.set_cons_succ, List.set_cons_zero, Function.comp_apply]
        refine WS_mono (ch_body (items := .tuple (xs.map Ex.py)) (num := k + cntL (xs.take i)) (H a ha) (hfin a ha) (by omega) (by omega) hc (by omega) (by omega) (by omega)) (fun ρ S2 h => ?_) (fun _ _ z => z.elim) (fun _ _ z => z.elim) (fun _ _ z => z.elim) (fun _ _ _ z => z.elim)
        obtain ⟨e1, v7, v8, v9, v10, rfl⟩ := h
        exact ⟨trivial, e1, _, v7, v8, v9, v10, rfl⟩
    · rintro ρ S1 ⟨e1, v2, v7, v8, v9, v10, rfl⟩
      rw [List.length_map, List.length_map, Nat.zero_add, List.take_length]
      exact ⟨e1, v2, v7, v8, v9, v10, rfl⟩
  rintro ρ S1 ⟨e1, v2, v7, v8, v9, v10, rfl⟩
  rw [e1]
  clear e1 S1
  simp -implicitDefEqProofs only [DL.wpW, reduceIte, Nat.reduceAdd, Nat.reduceLeDiff, DL.sFor_ap]
  all_goals exact ⟨by trivial, by trivial⟩
theorem g4_out {v0 v1 : Option D} {b : Bool} {F L : List Nat} {P : List (Nat × Nat)} {S : Sto} : nxG (gTupD 4 (gsCons (gNm 2) (gsCons (gNm 3) (gsCons (gNm 4) (gsCons (gNm 5) gsNil)))) (.p (outP b F L P)) [v0, v1, none, none, none, none] S) =
    .nx [v0, v1, some (.bl b), some (.p (.list (iLs F))), some (.p (.list (iLs L))), some (.p (prP P))] S := rfl
abbrev OuS (e : Ex) : Prop := ∀ (f : Nat), e.dep < f → e.cnt ≤ 8 → e.dep < 6 → OutSpec (G_outline f) e
/-- one inside -/
theorem out_one {a e : Ex} {w : Str} {mb : Bool} (hpy : e.py = .tuple [.str w, a.py]) (h1 : (w == Str.ofString "place") = false) (h2 : (w == Str.ofString "sequence") = false) (h3 : (w == Str.ofString "choice") = false) (h4 : (w == Str.ofString "maybe") = mb)
    (ho : ∀ k, e.out k = if mb = true then ⟨true, (a.out k).F, (a.out k).L, (a.out k).P⟩ else ⟨(a.out k).b || (w == Str.ofString "any"), (a.out k).F, (a.out k).L, (a.out k).P ++ prodL (a.out k).L (a.out k).F⟩) (hdp : e.dep = a.dep + 1) (hcn : e.cnt = a.cnt) (H : OuS a) : OuS e := by
  intro f hf hc8 hd6 k S Q E hc q
  obtain ⟨f, rfl⟩ : ∃ f', f = f' + 1 := ⟨f - 1, by omega⟩
  obtain ⟨t1, t2, t3⟩ := a.short (by omega) (by omega) k
  refine WE_def (fun d S' => d = .p (ouP (e.out k)) ∧ S' = S) ?_ (fun d S' ⟨e1, e2⟩ => ⟨_, S, [], e1, by rw [e2, List.append_nil], rfl, hc, q⟩)
  rw [show start0 NN_outline [.p e.py, .int ((k + 1 : Nat) : Int)] = [some (.p e.py), some (.int ((k + 1 : Nat) : Int)), none, none, none, none] from rfl]
  unfold B_outline
  have p0 : ∀ S : Sto, gIx (.p e.py) (.p (.int 0)) S = .ok (.str w) S := fun S => by rw [hpy]; rfl
  have p1 : ∀ S : Sto, gIx (.p e.py) (.p (.int 1)) S = .ok (.p a.py) S := fun S => by rw [hpy]; rfl
  refine WS_cut (fun ρ S' => S' = S ∧ ρ = [some (.p e.py), some (.int ((k + 1 : Nat) : Int)), none, none, none, none]) ?_ ?_
  · simp -implicitDefEqProofs only [DL.wpW, reduceIte, Nat.reduceAdd, Nat.reduceLeDiff, DL.sFor_ap, p0, h1]
    all_goals exact ⟨by trivial, by trivial⟩
  rintro ρ S' ⟨e1, rfl⟩
  rw [e1]
  clear e1 S'
  refine WS_cut (fun ρ S' => S' = S ∧ ρ = [some (.p e.py), some (.int ((k + 1 : Nat) : Int)), none, none, none, none]) ?_ ?_
  · simp -implicitDefEqProofs only [DL.wpW, reduceIte, Nat.reduceAdd, Nat.reduceLeDiff, DL.sFor_ap, p0, h2]
    all_goals exact ⟨by trivial, by trivial⟩
  rintro ρ S' ⟨e1, rfl⟩
  rw [e1]
  clear e1 S'
  refine WS_cut (fun ρ S' => S' = S ∧ ρ = [some (.p e.py), some (.int ((k + 1 : Nat) : Int)), none, none, none, none]) ?_ ?_
  · simp -implicitDefEqProofs only [DL.wpW, reduceIte, Nat.reduceAdd, Nat.reduceLeDiff, DL.sFor_ap, p0, h3]
    all_goals exact ⟨by trivial, by trivial⟩
  rintro ρ S' ⟨e1, rfl⟩
  rw [e1]
  clear e1 S'
  refine WS_cut (fun ρ S' => S' = S ∧ ρ = [some (.p e.py), some (.int ((k + 1 : Nat) : Int)), some (.bl (a.out k).b), some (.p (.list (iLs (a.out k).F))), some (.p (.list (iLs (a.out k).L))), some (.p (prP (a.out k).P))]) ?_ ?_
  · simp -implicitDefEqProofs only [DL.wpW, reduceIte, Nat.reduceAdd, Nat.reduceLeDiff, DL.sFor_ap, p1]
    refine H f (by omega) (by omega) (by omega) k hc ?_
    simp -implicitDefEqProofs only [DL.wpW, reduceIte, Nat.reduceAdd, Nat.reduceLeDiff, DL.sFor_ap, g4_out]
    all_goals exact ⟨by trivial, by trivial⟩
  rintro ρ S' ⟨e1, rfl⟩
  rw [e1]
  clear e1 S'
  have ho := ho k
  cases mb with
  | true =>
    rw [if_pos rfl] at ho
    simp -implicitDefEqProofs only [DL.wpW, reduceIte, Nat.reduceAdd, Nat.reduceLeDiff, DL.sFor_ap, p0, h4]
    exact ⟨by rw [ho], by trivial⟩
  | false =>
    rw [if_neg (by decide)] at ho
    have hz : (a.out k).P.length + (a.out k).L.length * (a.out k).F.length ≤ 16777216 := by
      have : (a.out k).L.length * (a.out k).F.length ≤ 8 * 8 := Nat.mul_le_mul t2 t1
      omega
    refine WS_cut (fun ρ S' => S' = S ∧ ρ = [some (.p e.py), some (.int ((k + 1 : Nat) : Int)), some (.bl (a.out k).b), some (.p (.list (iLs (a.out k).F))), some (.p (.list (iLs (a.out k).L))), some (.p (prP (a.out k).P))]) ?_ ?_
    · simp -implicitDefEqProofs only [DL.wpW, reduceIte, Nat.reduceAdd, Nat.reduceLeDiff, DL.sFor_ap, p0, h4]
      all_goals exact ⟨by trivial, by trivial⟩
    rintro ρ S' ⟨e1, rfl⟩
    rw [e1]
    clear e1 S'
    rw [ho]
    cases hb : (a.out k).b with
    | true =>
      simp -implicitDefEqProofs only [DL.wpW, reduceIte, Nat.reduceAdd, Nat.reduceLeDiff, DL.sFor_ap]
      refine all_pairs_wp hc (by have : (a.out k).L.length * (a.out k).F.length ≤ 8 * 8 := Nat.mul_le_mul t2 t1; omega) ?_
      simp -implicitDefEqProofs only [DL.wpW, reduceIte, Nat.reduceAdd, Nat.reduceLeDiff, DL.sFor_ap, List.length_map, prodL_len, hz]
      exact ⟨by simp [prP], by trivial⟩
    | false =>
      simp -implicitDefEqProofs only [DL.wpW, reduceIte, Nat.reduceAdd, Nat.reduceLeDiff, DL.sFor_ap, p0]
      refine all_pairs_wp hc (by have : (a.out k).L.length * (a.out k).F.length ≤ 8 * 8 := Nat.mul_le_mul t2 t1; omega) ?_
      simp -implicitDefEqProofs only [DL.wpW, reduceIte, Nat.reduceAdd, Nat.reduceLeDiff, DL.sFor_ap, List.length_map, prodL_len, hz]
      exact ⟨by simp [prP], by trivial⟩
theorem outline_wp : ∀ e : Ex, e.fin → OuS e := by
  refine Ex.ind ?_ ?_ ?_ ?_ ?_ ?_
  · intro p lo hi c _ f hf hc8 hd6 k S Q E hc q
    obtain ⟨f, rfl⟩ : ∃ f', f = f' + 1 := ⟨f - 1, by omega⟩
    refine WE_def (fun d S' => d = .p (ouP ((Ex.pl p lo hi c).out k)) ∧ S' = S) ?_ (fun d S' ⟨e1, e2⟩ => ⟨_, S, [], e1, by rw [e2, List.append_nil], rfl, hc, q⟩)
    rw [show start0 NN_outline [.p (Ex.pl p lo hi c).py, .int ((k + 1 : Nat) : Int)] = [some (.p (Ex.pl p lo hi c).py), some (.int ((k + 1 : Nat) : Int)), none, none, none, none] from rfl]
    unfold B_outline
    have p0 : ∀ S : Sto, gIx (.p (Ex.pl p lo hi c).py) (.p (.int 0)) S = .ok (.str (Str.ofString "place")) S := fun S => rfl
    simp -implicitDefEqProofs only [DL.wpW, reduceIte, Nat.reduceAdd, Nat.reduceLeDiff, DL.sFor_ap, p0, beq_self_eq_true]
    all_goals exact ⟨by trivial, by trivial⟩
  · intro l H hfi f hf hc8 hd6 k S Q E hc q
    obtain ⟨f, rfl⟩ : ∃ f', f = f' + 1 := ⟨f - 1, by omega⟩
    have nd := nd_sq l (fin_sq hfi).1
    have hce := nd.cnt
    refine WE_def (fun d S' => d = .p (ouP ((Ex.sq l).out k)) ∧ S' = S) ?_ (fun d S' ⟨e1, e2⟩ => ⟨_, S, [], e1, by rw [e2, List.append_nil], rfl, hc, q⟩)
    rw [show start0 NN_outline [.p (Ex.sq l).py, .int ((k + 1 : Nat) : Int)] = [some (.p (Ex.sq l).py), some (.int ((k + 1 : Nat) : Int)), none, none, none, none] from rfl]
    unfold B_outline
    have p0 : ∀ S : Sto, gIx (.p (Ex.sq l).py) (.p (.int 0)) S = .ok (.str (Str.ofString "sequence")) S := fun S => by rw [nd.py]; rfl
    have p1 : ∀ S : Sto, gIx (.p (Ex.sq l).py) (.p (.int 1)) S = .ok (.p (.tuple (l.toL.map Ex.py))) S := fun S => by rw [nd.py]; rfl
    simp -implicitDefEqProofs only [DL.wpW, reduceIte, Nat.reduceAdd, Nat.reduceLeDiff, DL.sFor_ap, p0, p1, e2, beq_self_eq_true]
    refine oseq_wp (g := G_outline f) (fun a h => H a h ((fin_sq hfi).2 a h) f (by have := nd.dep a h; omega) (by have := l.toL; have := cnt_mem h; omega) (by have := nd.dep a h; omega)) (fin_sq hfi).2 (by omega) (fun a h => by have := nd.dep a h; omega) k hc ?_
    try simp -implicitDefEqProofs only [DL.wpW, reduceIte, Nat.reduceAdd, Nat.reduceLeDiff, DL.sFor_ap]
    exact ⟨by rw [out_sq], by trivial⟩
  · intro l H hfi f hf hc8 hd6 k S Q E hc q
    obtain ⟨f, rfl⟩ : ∃ f', f = f' + 1 := ⟨f - 1, by omega⟩
    have nd := nd_ch l (fin_ch hfi).1
    have hce := nd.cnt
    refine WE_def (fun d S' => d = .p (ouP ((Ex.ch l).out k)) ∧ S' = S) ?_ (fun d S' ⟨e1, e2⟩ => ⟨_, S, [], e1, by rw [e2, List.append_nil], rfl, hc, q⟩)
    rw [show start0 NN_outline [.p (Ex.ch l).py, .int ((k + 1 : Nat) : Int)] = [some (.p (Ex.ch l).py), some (.int ((k + 1 : Nat) : Int)), none, none, none, none] from rfl]
    unfold B_outline
    have p0 : ∀ S : Sto, gIx (.p (Ex.ch l).py) (.p (.int 0)) S = .ok (.str (Str.ofString "choice")) S := fun S => by rw [nd.py]; rfl
    have p1 : ∀ S : Sto, gIx (.p (Ex.ch l).py) (.p (.int 1)) S = .ok (.p (.tuple (l.toL.map Ex.py))) S := fun S => by rw [nd.py]; rfl
    simp -implicitDefEqProofs only [DL.wpW, reduceIte, Nat.reduceAdd, Nat.reduceLeDiff, DL.sFor_ap, p0, p1, e3, h3, beq_self_eq_true]
    refine och_wp (g := G_outline f) (fun a h => H a h ((fin_ch hfi).2 a h) f (by have := nd.dep a h; omega) (by have := l.toL; have := cnt_mem h; omega) (by have := nd.dep a h; omega)) (fin_ch hfi).2 (by omega) (fun a h => by have := nd.dep a h; omega) k hc ?_
    try simp -implicitDefEqProofs only [DL.wpW, reduceIte, Nat.reduceAdd, Nat.reduceLeDiff, DL.sFor_ap]
    exact ⟨by rw [out_ch], by trivial⟩
  · intro a iha hfi
    exact out_one (w := Str.ofString "any") (mb := false) (by rw [Ex.py]) e4 h4 m4 n4 (fun k => by rw [if_neg (by decide), Ex.out, beq_self_eq_true, Bool.or_true]) dep_1.1 (by rw [Ex.cnt]) (iha (fin_1.1.mp hfi))
  · intro a iha hfi
    exact out_one (w := Str.ofString "some") (mb := false) (by rw [Ex.py]) e5 h5 m5 n5 (fun k => by rw [if_neg (by decide), Ex.out, n7, Bool.or_false]) dep_1.2.1 (by rw [Ex.cnt]) (iha (fin_1.2.1.mp hfi))
  · intro a iha hfi
    exact out_one (w := Str.ofString "maybe") (mb := true) (by rw [Ex.py]) e6 h6 m6 (beq_self_eq_true _) (fun k => by rw [if_pos rfl, Ex.out]) dep_1.2.2 (by rw [Ex.cnt]) (iha (fin_1.2.2.mp hfi))
end
end My

namespace My
open PySem PySem.Spec PyProof.Rows L2 DL
/-! ### behaviours are the rows -/
abbrev zL (l : List Nat) : List Int := l.map fun n : Nat => (n : Int)
theorem zL_iLs (l : List Nat) : (zL l).map PyData.int = iLs l := by simp [iLs]
theorem zL_inj {a b : List Nat} (h : zL a = zL b) : a = b := by
  have := congrArg (List.map Int.toNat) h
  simpa [List.map_map, Function.comp_def] using this
theorem zL_mem {l : List Nat} {j : Int} : j ∈ zL l ↔ ∃ n : Nat, n ∈ l ∧ (n : Int) = j := by simp [zL]
theorem zL_srt {l : List Nat} (h : l.Pairwise (· < ·)) : (zL l).Pairwise (· < ·) := List.pairwise_map.mpr (h.imp fun h => by omega)
theorem nodup_le {α : Type} [DecidableEq α] : ∀ {l m : List α}, l.Nodup → (∀ x ∈ l, x ∈ m) → l.length ≤ m.length
  | [], m, _, _ => Nat.zero_le _
  | a :: l, m, h, hs => by
    have h1 := List.nodup_cons.mp h
    have ha := hs a List.mem_cons_self
    have ih := nodup_le (m := m.erase a) h1.2 fun x hx => by
      have hne : x ≠ a := fun e => h1.1 (e ▸ hx)
      exact (List.mem_erase_of_ne hne).mpr (hs x (List.mem_cons_of_mem _ hx))
    rw [List.length_erase_of_mem ha] at ih
    have : 0 < m.length := List.length_pos_of_mem ha
    rw [List.length_cons]
    omega
theorem row_srt (e : Ex) (k : Nat) : (rowOf e k).1.Pairwise (· < ·) := List.Pairwise.filter _ List.pairwise_lt_range
theorem row_mem {e : Ex} {k b : Nat} : b ∈ (rowOf e k).1 ↔ (k, b) ∈ PRs e := by
  simp only [rowOf, List.mem_filter, List.mem_range, decide_eq_true_eq]
  exact ⟨fun h => h.2, fun h => ⟨by have := PRs_pos h; omega, h⟩⟩
theorem PRs_0 {e : Ex} {b : Nat} : (0, b) ∈ PRs e ↔ b ∈ (e.out 0).F := by
  unfold PRs
  rw [List.mem_append]
  constructor
  · rintro (h | h)
    · obtain ⟨b', hb, e1⟩ := List.mem_map.mp h
      cases e1
      exact hb
    · have := (e.out_ok 0).P _ h
      simp only at this
      omega
  · intro h
    exact .inl (List.mem_map.mpr ⟨b, h, rfl⟩)
theorem PRs_k {e : Ex} {k b : Nat} (hk : k ≠ 0) : (k, b) ∈ PRs e ↔ (k, b) ∈ (e.out 0).P := by
  unfold PRs
  rw [List.mem_append]
  constructor
  · rintro (h | h)
    · obtain ⟨b', hb, e1⟩ := List.mem_map.mp h
      cases e1
      exact absurd rfl hk
    · exact h
  · exact .inr
theorem row_0 (e : Ex) : rowOf e 0 = ((e.out 0).F, e.nul) := by
  have h : (rowOf e 0).1 = (e.out 0).F := zL_inj (sorted_one (zL_srt (row_srt e 0)) (zL_srt ((e.out_ok 0).s)) fun j => by
    rw [zL_mem, zL_mem]
    exact exists_congr fun n => and_congr_left fun _ => row_mem.trans PRs_0)
  have h2 : (rowOf e 0).2 = e.nul := by simp [rowOf]
  exact Prod.ext h h2
theorem row_k {e : Ex} {k : Nat} (hk : k ≠ 0) {acc : List Int} (hn : acc.Nodup) (hm : ∀ j, j ∈ acc ↔ ∃ b : Nat, (k, b) ∈ (e.out 0).P ∧ (b : Int) = j) : (srtI acc).map PyData.int = iLs (rowOf e k).1 ∧ (rowOf e k).2 = decide (k ∈ (e.out 0).L) := by
  constructor
  · rw [← zL_iLs]
    congr 1
    refine sorted_one (srtI_sorted hn) (zL_srt (row_srt e k)) fun j => ?_
    rw [mem_srtI, hm, zL_mem]
    exact exists_congr fun n => and_congr_left fun _ => (row_mem.trans (PRs_k hk)).symm
  · simp [rowOf, hk]
def bhP (r : Row) : PyData := .tuple [.bool r.2, .tuple (iLs r.1)]
theorem bhP_eqv (a b : Row) : PyData.eqv (bhP a) (bhP b) = decide (a = b) := by
  obtain ⟨a1, a2⟩ := a
  obtain ⟨b1, b2⟩ := b
  have e : PyData.eqv (bhP (a1, a2)) (bhP (b1, b2)) = ((a2 == b2) && (PyData.eqvAll (iLs a1) (iLs b1) && true)) := by simp only [bhP, PyData.eqv, PyData.eqvAll]
  rw [e, iLs_eqv, Bool.eq_iff_iff]
  simp only [Bool.and_eq_true, beq_iff_eq, decide_eq_true_eq, Prod.mk.injEq, and_true]
  exact And.comm
theorem bhP_lay (r : Row) : PyData.canLay0 (bhP r) = true ∧ PyData.depth (bhP r) ≤ 2 := by
  have h := iLs_lay r.1
  constructor
  · simp only [bhP, PyData.canLay0, PyData.canLayAll0, h.1, Bool.and_self]
  · simp only [bhP, PyData.depth, PyData.depthAll]
    omega
theorem bhs_lay : ∀ l : List Row, PyData.canLayAll0 (l.map bhP) = true ∧ PyData.depthAll (l.map bhP) ≤ 2
  | [] => by simp [PyData.canLayAll0, PyData.depthAll]
  | r :: l => by
    have h1 := bhP_lay r
    have h2 := bhs_lay l
    simp only [List.map_cons, PyData.canLayAll0, PyData.depthAll, h1.1, h2.1, Bool.and_self, true_and]
    omega
theorem bhP_sh (r : Row) : SeqAt.shaped (bhP r) = true := shaped_of (bhP_lay r).1 (bhP_lay r).2 (by decide)
theorem bhs_sh (l : List Row) : SeqAt.shaped (.list (l.map bhP)) = true := by
  have h := bhs_lay l
  refine shaped_of (k := 3) (by simp only [PyData.canLay0]; exact h.1) ?_ (by decide)
  simp only [PyData.depth]
  omega
theorem any_bhs (r : Row) (l : List Row) : ((l.map bhP).any fun z => PyData.eqv z (bhP r)) = decide (r ∈ l) := by
  rw [List.any_map, Bool.eq_iff_iff]
  simp only [List.any_eq_true, Function.comp_apply, bhP_eqv, decide_eq_true_eq]
  constructor
  · rintro ⟨a, h, rfl⟩; exact h
  · intro h; exact ⟨r, h, rfl⟩
theorem ixB_find {r : Row} : ∀ {l : List Row}, r ∈ l → (l.map bhP).findIdx? (fun z => PyData.eqv z (bhP r)) = some (ixR r l)
  | x :: l, h => by
    rw [List.map_cons, List.findIdx?_cons, bhP_eqv]
    unfold ixR
    by_cases e : x = r
    · simp [e]
    · rw [decide_eq_false e, if_neg e, ixB_find ((List.mem_cons.mp h).resolve_left fun z => e z.symm)]
      rfl
theorem gIdx_bhs {r : Row} {l : List Row} {S : Sto} {n : Nat} (h : S[n]? = some (dL (l.map bhP))) (hr : r ∈ l) : gIdx (.ob n) [.p (bhP r)] S = .ok (.int (ixR r l)) S := by
  have vl : vList S (.ob n) = some (l.map bhP) := by
    show (match S[n]? with | some (.lst l) => pAll l | some (.fz l) => some l | _ => none) = _
    rw [h]
    exact pAll_map _
  have e4 : pNow S (.p (bhP r)) = some (bhP r) := rfl
  unfold gIdx
  simp only [vl, e4]
  rw [if_pos ⟨bhs_sh l, bhP_sh r⟩, ixB_find hr]
/-! a set of numbers -/
theorem WE_lcSI {g : GD} {c : BD} {f : ED} {chk : Sto → Prop} {ρ0 : DL.Env} {Q : D → Sto → Prop} {E : Xc → Sto → Prop} (I : Nat → List Int → Sto → Prop) : ∀ (ds : List D) (k : Nat) (acc : List Int) (S : Sto), I k acc S →
    (∀ i d acc S, ds[i]? = some d → I (k + i) acc S → WE (g d ρ0 S) (fun ρ1 S1 => WE (c ρ1 S1) (fun b S2 => if b = true then WE (f ρ1 S2) (fun y S3 => ∃ j, y = .p (.int j) ∧ acc.length + 1 < 64 ∧ chk S3 ∧ I (k + i + 1) (addS acc j) S3) (fun _ _ => False) else chk S2 ∧ I (k + i + 1) acc S2) (fun _ _ => False)) (fun _ _ => False)) →
    (∀ acc S, I (k + ds.length) acc S → Q (.lst ((srtI acc).map .int)) S) → WE (okSI (lcSI g c f chk ρ0 ds acc S)) Q E
  | [], k, acc, S, h0, _, hn => hn acc S h0
  | d :: ds, k, acc, S, h0, hs, hn => by
    have q := hs 0 d acc S rfl h0
    have ih := fun acc2 S2 h => WE_lcSI (g := g) (c := c) (f := f) (chk := chk) (ρ0 := ρ0) (Q := Q) (E := E) I ds (k + 1) acc2 S2 h (fun i d ρ S e h => by
        have := hs (i + 1) d ρ S e (by rw [show k + (i + 1) = k + 1 + i by omega]; exact h)
        rw [show k + (i + 1) = k + 1 + i by omega] at this
        exact this) (fun ρ S h => hn ρ S (by rw [List.length_cons, show k + (ds.length + 1) = k + 1 + ds.length by omega]; exact h))
    unfold lcSI
    cases e : g d ρ0 S with
    | st => rw [e] at q; exact q.elim
    | ex x S1 => rw [e] at q; exact q.elim
    | ok ρ1 S1 =>
      rw [e] at q
      have q : WE (c ρ1 S1) _ _ := q
      dsimp only
      cases e2 : c ρ1 S1 with
      | st => rw [e2] at q; exact q.elim
      | ex x S1 => rw [e2] at q; exact q.elim
      | ok b S2 =>
        rw [e2] at q
        cases b with
        | false =>
          have q : chk S2 ∧ _ := q
          dsimp only
          rw [if_pos q.1]
          exact ih _ _ q.2
        | true =>
          have q : WE (f ρ1 S2) _ _ := q
          dsimp only
          cases e3 : f ρ1 S2 with
          | st => rw [e3] at q; exact q.elim
          | ex x S1 => rw [e3] at q; exact q.elim
          | ok y S3 =>
            rw [e3] at q
            obtain ⟨j, rfl, h1, h2, h3⟩ := q
            dsimp only
            rw [if_pos ⟨h1, h2⟩]
            exact ih _ _ h3
theorem eSrtI_ap {fi : DL.Env → Sto → Rs IDt} {g : GD} {c : BD} {f : ED} {vs : List Nat} {ρ : DL.Env} {S : Sto} : eSrtI fi g c f vs ρ S = (fi ρ S).bind fun d S1 => okSI (lcSI g c f d.2 (wipeE ρ vs) d.1 [] S1) := rfl
end My

namespace My
open PySem PySem.Spec PyProof.Rows L2 DL
section
variable {S : Sto} {Q : D → Sto → Prop} {E : Xc → Sto → Prop}
abbrev RQ (e : Ex) (v2 v3 v4 v5 v6 v7 v12 v13 v14 v15 v16 v17 v18 : Option D) : DL.Env :=
  [some (.p e.py), some (.p (plP e)), v2, v3, v4, v5, v6, v7, some (.bl e.nul), some (.p (.list (iLs ((e.out 0).F)))), some (.p (.list (iLs ((e.out 0).L)))), some (.p (prP ((e.out 0).P))), v12, v13, v14, v15, v16, v17, v18, none, none, none]
abbrev behs (e : Ex) (i : Nat) : List Row := (List.range i).map (rowOf e)
theorem g5_pl {e : Ex} {v2 v3 v4 v5 v6 v7 v12 v13 v14 v15 v16 v17 v18 : Option D} {pl : Pl4} {S : Sto} : nxG (gTupD 5 (gsCons (gNm 14) (gsCons (gNm 15) (gsCons (gNm 16) (gsCons (gNm 17) (gsCons (gNm 18) gsNil))))) (.p pl.py) (RQ e v2 v3 v4 v5 v6 v7 v12 v13 v14 v15 v16 v17 v18) S) =
    .nx (RQ e v2 v3 v4 v5 v6 v7 v12 v13 (some (.p (.str "place"))) (some (.int pl.p)) (some (.int pl.lo)) (some (.int pl.hi)) (some (.int pl.c))) S := rfl
theorem beh_ok {e : Ex} {k : Nat} {v7 v3 v4 v5 v6 v12 v13 v14 v15 v16 v17 v18 : Option D} (h1 : e.cnt ≤ 8) (h2 : e.dep < 6) (hc : ClS 0 S) (hk : k ≠ 0) (hk2 : k ≤ e.cnt) :
    WS ((sSeq (sSet 12 (eSrtI (iLst (eVar 11)) ((gTupD 2 (gNms [20, 21]))) (asB (eBin (gEq false) (eVar 20) (eVar 3))) (eVar 21) [20, 21])) (sExpr (eMth gApp (eVar 2) (aCons (eTup (aCons (eBin (gInA false) (eVar 3) (eVar 10)) (aCons (eB gToTup (aCons (eVar 12) (aNil))) (aNil)))) (aNil)))))
      (RQ e (some (.ob S.length)) (some (.int (k : Nat))) v4 v5 v6 v7 v12 v13 v14 v15 v16 v17 v18) (S ++ [dL ((behs e k).map bhP)]))
      (Qn fun ρ S' => S' = S ++ [dL ((behs e (k + 1)).map bhP)] ∧ ∃ v12, ρ = RQ e (some (.ob S.length)) (some (.int (k : Nat))) v4 v5 v6 v7 v12 v13 v14 v15 v16 v17 v18) := by
  obtain ⟨s1, s2, s3⟩ := Ex.short h1 h2 0
  refine WS_cut (fun ρ S' => S' = S ++ [dL ((behs e k).map bhP)] ∧ (rowOf e k).2 = decide (k ∈ (e.out 0).L) ∧ ρ = RQ e (some (.ob S.length)) (some (.int (k : Nat))) v4 v5 v6 v7 (some (.p (.list (iLs (rowOf e k).1)))) v13 v14 v15 v16 v17 v18) ?_ ?_
  · simp -implicitDefEqProofs only [DL.wpW, reduceIte, Nat.reduceAdd, Nat.reduceLeDiff, DL.sFor_ap, eSrtI_ap]
    rw [show wipeE (RQ e (some (.ob S.length)) (some (.int (k : Nat))) v4 v5 v6 v7 v12 v13 v14 v15 v16 v17 v18) [20, 21] = RQ e (some (.ob S.length)) (some (.int (k : Nat))) v4 v5 v6 v7 v12 v13 v14 v15 v16 v17 v18 from rfl]
    refine WE_lcSI (fun i acc S' => S' = S ++ [dL ((behs e k).map bhP)] ∧ acc.Nodup ∧ (∀ j ∈ acc, ∃ b : Nat, b < 9 ∧ (b : Int) = j) ∧ ∀ j, j ∈ acc ↔ ∃ b : Nat, (k, b) ∈ ((e.out 0).P).take i ∧ (b : Int) = j) _ 0 _ _ ⟨rfl, List.nodup_nil, (fun j hj => absurd hj (by simp)), (fun j => by simp)⟩ ?_ ?_
    · rintro i d acc S' hd ⟨rfl, hnd, hsm, hmem⟩
      rw [List.map_map, List.getElem?_map] at hd
      cases ep : ((e.out 0).P)[i]? with
      | none => rw [ep] at hd; cases hd
      | some p =>
        rw [ep] at hd
        cases hd
        rw [Nat.zero_add] at hmem ⊢
        have hpm : p ∈ (e.out 0).P := List.mem_of_getElem? ep
        have hpb := (e.out_ok 0).P p hpm
        have tk : ((e.out 0).P).take (i + 1) = ((e.out 0).P).take i ++ [p] := by rw [List.take_succ, ep]; rfl
        have hal : acc.length ≤ 9 := by
          have z := nodup_le (m := zL (List.range 9)) hnd fun x hx => by
            obtain ⟨b, hb, rfl⟩ := hsm x hx
            exact zL_mem.mpr ⟨b, List.mem_range.mpr hb, rfl⟩
          simpa using z
        have gt : ∀ ρ S, (gTupD 2 (gNms [20, 21])) (.p (pD p)) ρ S = .ok ((ρ.set 20 (some (.int p.1))).set 21 (some (.int p.2))) S := fun _ _ => rfl
        by_cases hpk : p.1 = k
        · have eb : ((p.1 : Int) == (k : Int)) = true := by rw [hpk]; exact beq_self_eq_true _
          simp -implicitDefEqProofs only [DL.wpW, reduceIte, Nat.reduceAdd, Nat.reduceLeDiff, DL.sFor_ap, Function.comp_apply, gt, eb]
          refine ⟨_, rfl, by omega, trivial, by trivial, addS_nodup hnd, fun j hj => ?_, fun j => ?_⟩
          · rcases mem_addS.mp hj with z | z
            · exact hsm j z
            · exact ⟨p.2, by omega, z.symm⟩
          · rw [mem_addS, hmem, tk]
            constructor
            · rintro (⟨b, hb, e1⟩ | rfl)
              · exact ⟨b, List.mem_append_left _ hb, e1⟩
              · exact ⟨p.2, List.mem_append_right _ (by rw [← hpk]; exact List.mem_singleton.mpr rfl), rfl⟩
            · rintro ⟨b, hb, e1⟩
              rcases List.mem_append.mp hb with z | z
              · exact .inl ⟨b, z, e1⟩
              · have := List.mem_singleton.mp z
                rw [← this]
                exact .inr e1.symm
        · have eb : ((p.1 : Int) == (k : Int)) = false := beq_eq_false_iff_ne.mpr (by omega)
          simp -implicitDefEqProofs only [DL.wpW, reduceIte, Nat.reduceAdd, Nat.reduceLeDiff, DL.sFor_ap, Function.comp_apply, gt, eb]
          refine ⟨trivial, by trivial, hnd, hsm, fun j => ?_⟩
          rw [hmem, tk]
          constructor
          · rintro ⟨b, hb, e1⟩
            exact ⟨b, List.mem_append_left _ hb, e1⟩
          · rintro ⟨b, hb, e1⟩
            rcases List.mem_append.mp hb with z | z
            · exact ⟨b, z, e1⟩
            · have := List.mem_singleton.mp z
              rw [← this] at hpk
              exact absurd rfl hpk
    · rintro acc S' ⟨rfl, hnd, hsm, hmem⟩
      rw [List.length_map, List.length_map, Nat.zero_add, List.take_length] at hmem
      obtain ⟨r1, r2⟩ := row_k hk hnd hmem
      simp -implicitDefEqProofs only [DL.wpW, reduceIte, Nat.reduceAdd, Nat.reduceLeDiff, DL.sFor_ap]
      exact ⟨by trivial, r2, by rw [r1]⟩
  rintro ρ S' ⟨rfl, hr2, rfl⟩
  have hl : (behs e k).length < 16777216 := by simp; omega
  simp -implicitDefEqProofs only [DL.wpW, reduceIte, Nat.reduceAdd, Nat.reduceLeDiff, DL.sFor_ap, inN, gToTup_l, tg0, ts0, List.length_map, hl, dL_snoc]
  have e3 : PyData.tuple [.bool (decide (k ∈ (e.out 0).L)), .tuple (iLs (rowOf e k).1)] = bhP (rowOf e k) := by rw [← hr2]; rfl
  rw [if_pos (by rw [List.length_range]; omega), e3]
  exact ⟨by simp [behs, List.range_succ], _, rfl⟩
abbrev T3 (B R : List Row) (M : List Mv) : Sto := [dL (B.map bhP), dL (R.map bhP), dL (M.map Mv.py)]
theorem T3_cl {B R : List Row} {M : List Mv} (hc : ClS 0 S) : ClS 0 (S ++ T3 B R M) := clS_app hc (clS_cons clO_p (clS_cons clO_p (clS_one clO_p)))
theorem moves_ok {e : Ex} {v3 v5 v12 v13 v14 v15 v16 v17 v18 : Option D} (h1 : e.cnt ≤ 8) (hR : ∀ r ∈ rowsU e (e.cnt + 1), ∀ b ∈ r.1, 1 ≤ b ∧ b ≤ e.cnt) (hR2 : ∀ r ∈ rowsU e (e.cnt + 1), r.1.length ≤ e.cnt + 1) (hl : (rowsU e (e.cnt + 1)).length ≤ e.cnt + 1) :
    WS (forL (gNm 7) (sFor (iTpl (eBin gIx (eBin gIx (eVar 4) (eVar 7)) (eC (.int 1)))) (gNm 3) (sSeq (sAsg (eBin gIx (eVar 1) (eBin gSub (eVar 3) (eC (.int 1)))) (gTupD 5 (gsCons (gNm 14) (gsCons (gNm 15) (gsCons (gNm 16) (gsCons (gNm 17) (gsCons (gNm 18) (gsNil)))))))) (sSeq (sSet 13 (eMth gIdx (eVar 4) (aCons (eBin gIx (eVar 2) (eVar 3)) (aNil)))) (sExpr (eMth gApp (eVar 6) (aCons (eTup (aCons (eVar 7) (aCons (eVar 13) (aCons (eVar 15) (aCons (eVar 16) (aCons (eVar 17) (aCons (eVar 18) (aNil)))))))) (aNil))))))) (fun _ => True) (rngL 0 (rowsU e (e.cnt + 1)).length)
      (RQ e (some (.ob S.length)) v3 (some (.ob (S.length + 1))) v5 (some (.ob (S.length + 2))) none v12 v13 v14 v15 v16 v17 v18) (S ++ T3 (behs e (e.cnt + 1)) (rowsU e (e.cnt + 1)) []))
      (Qn fun ρ S' => S' = S ++ T3 (behs e (e.cnt + 1)) (rowsU e (e.cnt + 1)) (machM e) ∧ ∃ v3 v7 v13 v14 v15 v16 v17 v18, ρ = RQ e (some (.ob S.length)) v3 (some (.ob (S.length + 1))) v5 (some (.ob (S.length + 2))) v7 v12 v13 v14 v15 v16 v17 v18) := by
  generalize hRe : rowsU e (e.cnt + 1) = R at hR hR2 hl ⊢
  have hme : machM e = mvsU e R R.length := by rw [← hRe]; rfl
  rw [hme]
  refine WS_for (fun i ρ S' => ∃ v3 v7 v13 v14 v15 v16 v17 v18, (mvsU e R i).length ≤ i * 10 ∧ S' = S ++ T3 (behs e (e.cnt + 1)) R (mvsU e R i) ∧ ρ = RQ e (some (.ob S.length)) v3 (some (.ob (S.length + 1))) v5 (some (.ob (S.length + 2))) v7 v12 v13 v14 v15 v16 v17 v18) _ 0 _ _ ⟨_, _, _, _, _, _, _, _, by simp [mvsU], by simp [mvsU], rfl⟩ ?_ ?_
  · rintro i d ρ S' hd ⟨v3, v7, v13, v14, v15, v16, v17, v18, hml, rfl, rfl⟩
    obtain ⟨hi, rfl⟩ := rngL_get hd
    rw [Nat.zero_add] at hml ⊢
    have er : R[i]? = some R[i] := List.getElem?_eq_getElem hi
    have hrb := hR _ (List.getElem_mem hi)
    have hrl := hR2 _ (List.getElem_mem hi)
    generalize R[i] = r at er hrb hrl
    have gr : ∀ S : Sto, gIx (.p (bhP r)) (.p (.int 1)) S = .ok (.p (.tuple (iLs r.1))) S := fun S => rfl
    simp -implicitDefEqProofs only [DL.wpW, reduceIte, Nat.reduceAdd, Nat.reduceLeDiff, DL.sFor_ap, Int.zero_add, tg, List.getElem?_map, er, gr, List.cons_append, List.nil_append]
    refine WS_for (fun j ρ S' => ∃ v3 v13 v14 v15 v16 v17 v18, S' = S ++ T3 (behs e (e.cnt + 1)) R (mvsU e R i ++ (r.1.take j).map (mvAt e i)) ∧ ρ = RQ e (some (.ob S.length)) v3 (some (.ob (S.length + 1))) v5 (some (.ob (S.length + 2))) (some (.int (i : Nat))) v12 v13 v14 v15 v16 v17 v18) _ 0 _ _ ⟨_, _, _, _, _, _, _, by simp, rfl⟩ ?_ ?_
    · rintro j d ρ S' hd ⟨v3, v13, v14, v15, v16, v17, v18, rfl, rfl⟩
      rw [List.map_map, List.getElem?_map] at hd
      cases eb : r.1[j]? with
      | none => rw [eb] at hd; cases hd
      | some b =>
        rw [eb] at hd
        cases hd
        have hj : j < r.1.length := (List.getElem?_eq_some_iff.mp eb).1
        have hb := hrb b (List.mem_of_getElem? eb)
        have hlp := e.plc_len
        have hbp : b - 1 < e.plc.length := by omega
        have ep : e.plc[b - 1]? = some e.plc[b - 1] := List.getElem?_eq_getElem hbp
        generalize e.plc[b - 1] = pl at ep
        have ebh : (behs e (e.cnt + 1))[b]? = some (rowOf e b) := by
          unfold behs
          rw [List.getElem?_map, List.getElem?_range (by omega)]; rfl
        have hmR : rowOf e b ∈ R := by
          have z : rowOf e b ∈ rowsU e (b + 1) := mem_addR _ _
          obtain ⟨T, h2⟩ := rowsU_ext e (b + 1) (e.cnt + 1 - (b + 1))
          rw [show b + 1 + (e.cnt + 1 - (b + 1)) = e.cnt + 1 by omega, hRe] at h2
          rw [h2]
          exact List.mem_append_left _ z
        have hst : stAt e b = ixR (rowOf e b) R := by rw [← hRe]; exact stAt_of (by omega)
        have eb1 : (b : Int) - 1 = ((b - 1 : Nat) : Int) := by omega
        rw [Nat.zero_add]
        refine WS_cut (fun ρ S' => S' = S ++ T3 (behs e (e.cnt + 1)) R (mvsU e R i ++ (r.1.take j).map (mvAt e i)) ∧ ρ = RQ e (some (.ob S.length)) (some (.int (b : Nat))) (some (.ob (S.length + 1))) v5 (some (.ob (S.length + 2))) (some (.int (i : Nat))) v12 v13 (some (.p (.str "place"))) (some (.int pl.p)) (some (.int pl.lo)) (some (.int pl.hi)) (some (.int pl.c))) ?_ ?_
        · simp -implicitDefEqProofs only [DL.wpW, reduceIte, Nat.reduceAdd, Nat.reduceLeDiff, DL.sFor_ap, Function.comp_apply, List.getElem?_map, eb1, ep, g5_pl]
          all_goals exact ⟨by trivial, by trivial⟩
        rintro ρ S' ⟨rfl, rfl⟩
        have gi := gIdx_bhs (r := rowOf e b) (l := R) (S := S ++ T3 (behs e (e.cnt + 1)) R (mvsU e R i ++ (r.1.take j).map (mvAt e i))) (n := S.length + 1) tg hmR
        have hL : (mvsU e R i ++ (r.1.take j).map (mvAt e i)).length < 16777216 := by
          rw [List.length_append, List.length_map, List.length_take]
          omega
        refine WS_cut (fun ρ S' => S' = S ++ T3 (behs e (e.cnt + 1)) R (mvsU e R i ++ (r.1.take j).map (mvAt e i)) ∧ ρ = RQ e (some (.ob S.length)) (some (.int (b : Nat))) (some (.ob (S.length + 1))) v5 (some (.ob (S.length + 2))) (some (.int (i : Nat))) v12 (some (.int (stAt e b : Nat))) (some (.p (.str "place"))) (some (.int pl.p)) (some (.int pl.lo)) (some (.int pl.hi)) (some (.int pl.c))) ?_ ?_
        · simp -implicitDefEqProofs only [DL.wpW, reduceIte, Nat.reduceAdd, Nat.reduceLeDiff, DL.sFor_ap, tg, tg0, List.getElem?_map, ebh, gi, hst]
          all_goals exact ⟨by trivial, by trivial⟩
        rintro ρ S' ⟨rfl, rfl⟩
        generalize hG : mvsU e R i ++ (r.1.take j).map (mvAt e i) = G at hL
        simp -implicitDefEqProofs only [DL.wpW, reduceIte, Nat.reduceAdd, Nat.reduceLeDiff, DL.sFor_ap, tg, ts, List.length_map, hL, dL_snoc]
        refine ⟨by trivial, _, _, _, _, _, _, _, ?_, rfl⟩
        rw [List.take_succ, eb]
        have em : PyData.tuple [.int (i : Nat), .int (stAt e b : Nat), .int pl.p, .int pl.lo, .int pl.hi, .int pl.c] = (mvAt e i b).py := by
          simp [mvAt, Mv.py, ep]
        simp [T3, em, ← hG]
    · rintro ρ S' ⟨v3, v13, v14, v15, v16, v17, v18, rfl, rfl⟩
      rw [List.length_map, List.length_map, Nat.zero_add, List.take_length]
      have e2 : mvsU e R (i + 1) = mvsU e R i ++ r.1.map (mvAt e i) := by
        unfold mvsU
        rw [List.range_succ, List.flatMap_append]
        simp [mvRow, er]
      refine ⟨by trivial, _, _, _, _, _, _, _, _, ?_, by rw [e2], rfl⟩
      rw [e2, List.length_append, List.length_map]
      omega
  · rintro ρ S' ⟨v3, v7, v13, v14, v15, v16, v17, v18, hml, rfl, rfl⟩
    rw [rngL_length, Nat.zero_add]
    exact ⟨by trivial, _, _, _, _, _, _, _, _, rfl⟩
end
end My

namespace My
open PySem PySem.Spec PyProof.Rows L2 DL
theorem rowsU_mem {e : Ex} {r : Row} : ∀ {n : Nat}, r ∈ rowsU e n → ∃ k, r = rowOf e k
  | n + 1, h => by
    have h : r ∈ addR (rowsU e n) (rowOf e n) := h
    unfold addR at h
    split at h
    · exact rowsU_mem h
    · rcases List.mem_append.mp h with z | z
      · exact rowsU_mem z
      · exact ⟨n, List.mem_singleton.mp z⟩
theorem rowsU_len {e : Ex} : ∀ n, (rowsU e n).length ≤ n
  | 0 => Nat.le_refl _
  | n + 1 => by
    have ih := rowsU_len (e := e) n
    show (addR (rowsU e n) (rowOf e n)).length ≤ _
    unfold addR
    split
    · omega
    · rw [List.length_append, List.length_singleton]; omega
theorem row_b {e : Ex} {r : Row} {n : Nat} (h : r ∈ rowsU e n) : r.1.length ≤ e.cnt + 1 ∧ ∀ b ∈ r.1, 1 ≤ b ∧ b ≤ e.cnt := by
  obtain ⟨k, rfl⟩ := rowsU_mem h
  refine ⟨?_, fun b hb => PRs_pos (row_mem.mp hb)⟩
  have := List.length_filter_le (fun b => decide ((k, b) ∈ PRs e)) (List.range (e.cnt + 1))
  rw [List.length_range] at this
  exact this
section
variable {S : Sto} {Q : D → Sto → Prop} {E : Xc → Sto → Prop}
theorem lItems_d {l : List PyData} {S : Sto} {n : Nat} (h : S[n]? = some (dL l)) : lItems S (.ob n) = some (l.map .p) := by
  unfold lItems
  simp only [h]
theorem pmachine_wp {e : Ex} (hfin : e.fin) (h1 : e.cnt ≤ 8) (h2 : e.dep < 6) (hc : ClS 0 S) (q : Q (.p (machP (machE e) (machM e))) S) : WE (G_machine [.p e.py] S) Q E := by
  refine WE_def (fun d S' => d = .p (machP (machE e) (machM e)) ∧ ∃ T, S' = S ++ T) ?_ (fun d S' ⟨e1, T, e2⟩ => ⟨_, S, T, e1, e2, rfl, hc, q⟩)
  rw [show start0 NN_machine [.p e.py] = [some (.p e.py), none, none, none, none, none, none, none, none, none, none, none, none, none, none, none, none, none, none, none, none, none] from rfl]
  unfold B_machine
  refine WS_cut (fun ρ S' => S' = S ∧ ρ = [some (.p e.py), none, none, none, none, none, none, none, some (.bl e.nul), some (.p (.list (iLs ((e.out 0).F)))), some (.p (.list (iLs ((e.out 0).L)))), some (.p (prP ((e.out 0).P))), none, none, none, none, none, none, none, none, none, none]) ?_ ?_
  · simp -implicitDefEqProofs only [DL.wpW, reduceIte, Nat.reduceAdd, Nat.reduceLeDiff, DL.sFor_ap]
    refine outline_wp e hfin 6 h2 h1 h2 0 hc ?_
    simp only [ouP, Ex.out_b]
    try simp -implicitDefEqProofs only [DL.wpW, reduceIte, Nat.reduceAdd, Nat.reduceLeDiff, DL.sFor_ap]
    all_goals exact ⟨by trivial, by trivial⟩
  rintro ρ S' ⟨e1, rfl⟩
  rw [e1]
  clear e1 S'
  refine WS_cut (fun ρ S' => S' = S ∧ ρ = RQ e none none none none none none none none none none none none none) ?_ ?_
  · simp -implicitDefEqProofs only [DL.wpW, reduceIte, Nat.reduceAdd, Nat.reduceLeDiff, DL.sFor_ap]
    refine places_wp e hfin 6 h2 (by omega) hc ?_
    try simp -implicitDefEqProofs only [DL.wpW, reduceIte, Nat.reduceAdd, Nat.reduceLeDiff, DL.sFor_ap]
    all_goals exact ⟨by trivial, by trivial⟩
  rintro ρ S' ⟨e1, rfl⟩
  rw [e1]
  clear e1 S'
  refine WS_cut (fun ρ S' => S' = S ++ [dL ((behs e 1).map bhP)] ∧ ρ = RQ e (some (.ob S.length)) none none none none none none none none none none none none) ?_ ?_
  · have e0 : PyData.tuple [.bool e.nul, .tuple (iLs ((e.out 0).F))] = bhP (rowOf e 0) := by rw [row_0]; rfl
    simp -implicitDefEqProofs only [DL.wpW, reduceIte, Nat.reduceAdd, Nat.reduceLeDiff, DL.sFor_ap, gToTup_l, e0]
    all_goals exact ⟨by simp [behs]; exact e0, by trivial⟩
  rintro ρ S' ⟨rfl, rfl⟩
  have hlp := e.plc_len
  refine WS_cut (fun ρ S' => S' = S ++ [dL ((behs e (e.cnt + 1)).map bhP)] ∧ ∃ v3 v12, ρ = RQ e (some (.ob S.length)) v3 none none none none v12 none none none none none none) ?_ ?_
  · have b1 : big62 1 = true := big62_of (by decide) (by decide)
    have b2 : big62 ((e.cnt : Int) + 1) = true := big62_of (by omega) (by omega)
    have e3 : ((e.cnt : Int) + 1 - 1).toNat = e.cnt := by omega
    simp -implicitDefEqProofs only [DL.wpW, reduceIte, Nat.reduceAdd, Nat.reduceLeDiff, DL.sFor_ap, List.length_map, hlp, b1, b2, e3]
    refine WS_for (fun i ρ S' => S' = S ++ [dL ((behs e (1 + i)).map bhP)] ∧ ∃ v3 v12, ρ = RQ e (some (.ob S.length)) v3 none none none none v12 none none none none none none) _ 0 _ _ ⟨rfl, none, none, rfl⟩ ?_ ?_
    · rintro i d ρ S' hd ⟨rfl, v3, v12, rfl⟩
      obtain ⟨hi, rfl⟩ := rngL_get hd
      rw [Nat.zero_add]
      rw [show ((1 : Int) + (i : Int)) = ((1 + i : Nat) : Int) by omega]
      simp only [gNm_ap, WE_ok, List.set_cons_succ, List.set_cons_zero]
      refine WS_mono (beh_ok (v3 := none) (k := 1 + i) h1 h2 hc (by omega) (by omega)) (fun ρ S' h => ?_) (fun _ _ z => z.elim) (fun _ _ z => z.elim) (fun _ _ z => z.elim) (fun _ _ _ z => z.elim)
      obtain ⟨rfl, v12, rfl⟩ := h
      exact ⟨by trivial, by rw [show 1 + (i + 1) = 1 + i + 1 by omega], _, _, rfl⟩
    · rintro ρ S' ⟨rfl, v3, v12, rfl⟩
      rw [rngL_length, Nat.zero_add, Nat.add_comm 1]
      exact ⟨rfl, v3, v12, rfl⟩
  rintro ρ S' ⟨rfl, v3, v12, rfl⟩
  refine WS_cut (fun ρ S' => S' = S ++ [dL ((behs e (e.cnt + 1)).map bhP), dL (([] : List Row).map bhP)] ∧ ρ = RQ e (some (.ob S.length)) v3 (some (.ob (S.length + 1))) none none none v12 none none none none none none) ?_ ?_
  · simp -implicitDefEqProofs only [DL.wpW, reduceIte, Nat.reduceAdd, Nat.reduceLeDiff, DL.sFor_ap]
    exact ⟨by simp, by simp⟩
  rintro ρ S' ⟨rfl, rfl⟩
  have hbl : (behs e (e.cnt + 1)).length = e.cnt + 1 := by simp
  refine WS_cut (fun ρ S' => S' = S ++ [dL ((behs e (e.cnt + 1)).map bhP), dL ((rowsU e (e.cnt + 1)).map bhP)] ∧ ∃ v5, ρ = RQ e (some (.ob S.length)) v3 (some (.ob (S.length + 1))) v5 none none v12 none none none none none none) ?_ ?_
  · simp -implicitDefEqProofs only [DL.wpW, reduceIte, Nat.reduceAdd, Nat.reduceLeDiff, DL.sFor_ap, lItems_d (S := S ++ [dL ((behs e (e.cnt + 1)).map bhP), dL (([] : List Row).map bhP)]) (n := S.length) tg0]
    refine WS_for (fun i ρ S' => S' = S ++ [dL ((behs e (e.cnt + 1)).map bhP), dL ((rowsU e i).map bhP)] ∧ ∃ v5, ρ = RQ e (some (.ob S.length)) v3 (some (.ob (S.length + 1))) v5 none none v12 none none none none none none) _ 0 _ _ ⟨rfl, none, rfl⟩ ?_ ?_
    · rintro i d ρ S' hd ⟨rfl, v5, rfl⟩
      rw [List.map_map, List.getElem?_map] at hd
      cases er : (behs e (e.cnt + 1))[i]? with
      | none => rw [er] at hd; cases hd
      | some r =>
        rw [er] at hd
        cases hd
        have hi : i < (behs e (e.cnt + 1)).length := (List.getElem?_eq_some_iff.mp er).1
        rw [hbl] at hi
        have hr : r = rowOf e i := by
          have z : (behs e (e.cnt + 1))[i]? = some (rowOf e i) := by
            unfold behs
            rw [List.getElem?_map, List.getElem?_range hi]; rfl
          rw [z] at er
          exact (Option.some.inj er).symm
        subst hr
        rw [Nat.zero_add]
        have ck : chkOf (.ob S.length) ((behs e (e.cnt + 1)).map bhP |>.map D.p) (S ++ [dL ((behs e (e.cnt + 1)).map bhP), dL ((rowsU e (i + 1)).map bhP)]) := lItems_d tg0
        have gR := inL (neg := true) (d := bhP (rowOf e i)) (l := (rowsU e i).map bhP) (S := S ++ [dL ((behs e (e.cnt + 1)).map bhP), dL ((rowsU e i).map bhP)]) (n := S.length + 1) tg rfl (bhP_sh _) (bhs_sh _)
        rw [any_bhs] at gR
        have hrl := rowsU_len (e := e) i
        have hL : (rowsU e i).length < 16777216 := by omega
        have ext : rowsU e (i + 1) = addR (rowsU e i) (rowOf e i) := rfl
        by_cases hm : rowOf e i ∈ rowsU e i
        · have ex2 : rowsU e (i + 1) = rowsU e i := by rw [ext]; unfold addR; rw [if_pos hm]
          rw [ex2] at ck ⊢
          simp -implicitDefEqProofs only [DL.wpW, reduceIte, Nat.reduceAdd, Nat.reduceLeDiff, DL.sFor_ap, Function.comp_apply, gR, hm, decide_true]
          exact ⟨ck, by trivial, _, rfl⟩
        · have ex2 : rowsU e (i + 1) = rowsU e i ++ [rowOf e i] := by rw [ext]; unfold addR; rw [if_neg hm]
          rw [ex2] at ck ⊢
          simp -implicitDefEqProofs only [DL.wpW, reduceIte, Nat.reduceAdd, Nat.reduceLeDiff, DL.sFor_ap, Function.comp_apply, gR, hm, decide_false, tg, ts, List.length_map, hL, dL_snoc]
          refine ⟨?_, by simp, _, rfl⟩
          simpa using ck
    · rintro ρ S' ⟨rfl, v5, rfl⟩
      rw [List.length_map, List.length_map, Nat.zero_add, hbl]
      exact ⟨rfl, v5, rfl⟩
  rintro ρ S' ⟨rfl, v5, rfl⟩
  refine WS_cut (fun ρ S' => S' = S ++ T3 (behs e (e.cnt + 1)) (rowsU e (e.cnt + 1)) [] ∧ ρ = RQ e (some (.ob S.length)) v3 (some (.ob (S.length + 1))) v5 (some (.ob (S.length + 2))) none v12 none none none none none none) ?_ ?_
  · simp -implicitDefEqProofs only [DL.wpW, reduceIte, Nat.reduceAdd, Nat.reduceLeDiff, DL.sFor_ap]
    exact ⟨by simp, by simp⟩
  rintro ρ S' ⟨rfl, rfl⟩
  have hRl := rowsU_len (e := e) (e.cnt + 1)
  refine WS_cut (fun ρ S' => S' = S ++ T3 (behs e (e.cnt + 1)) (rowsU e (e.cnt + 1)) (machM e) ∧ ∃ v3 v7 v13 v14 v15 v16 v17 v18, ρ = RQ e (some (.ob S.length)) v3 (some (.ob (S.length + 1))) v5 (some (.ob (S.length + 2))) v7 v12 v13 v14 v15 v16 v17 v18) ?_ ?_
  · have bn : big62 ((rowsU e (e.cnt + 1)).length : Int) = true := big62_nat (by omega)
    simp -implicitDefEqProofs only [DL.wpW, reduceIte, Nat.reduceAdd, Nat.reduceLeDiff, DL.sFor_ap, tg, List.length_map, bn, Int.toNat_natCast]
    exact WS_mono (moves_ok h1 (fun r hr => (row_b hr).2) (fun r hr => (row_b hr).1) hRl) (fun ρ S' h => h) (fun _ _ z => z.elim) (fun _ _ z => z.elim) (fun _ _ z => z.elim) (fun _ _ _ z => z.elim)
  rintro ρ S' ⟨rfl, v3, v7, v13, v14, v15, v16, v17, v18, rfl⟩
  have li := lItems_d (S := S ++ T3 (behs e (e.cnt + 1)) (rowsU e (e.cnt + 1)) (machM e)) (n := S.length + 1) (l := (rowsU e (e.cnt + 1)).map bhP) tg
  simp -implicitDefEqProofs only [DL.wpW, reduceIte, Nat.reduceAdd, Nat.reduceLeDiff, DL.sFor_ap, li]
  rw [show wipeE (RQ e (some (.ob S.length)) v3 (some (.ob (S.length + 1))) v5 (some (.ob (S.length + 2))) v7 v12 v13 v14 v15 v16 v17 v18) [19] = RQ e (some (.ob S.length)) v3 (some (.ob (S.length + 1))) v5 (some (.ob (S.length + 2))) v7 v12 v13 v14 v15 v16 v17 v18 from rfl]
  refine WE_lc (fun i acc S' => S' = S ++ T3 (behs e (e.cnt + 1)) (rowsU e (e.cnt + 1)) (machM e) ∧ acc = ((rowsU e (e.cnt + 1)).take i).map fun r => PyData.bool r.2) _ 0 _ _ ⟨rfl, by simp⟩ ?_ ?_
  · rintro i d acc S' hd ⟨rfl, rfl⟩
    rw [List.map_map, List.getElem?_map] at hd
    cases er : (rowsU e (e.cnt + 1))[i]? with
    | none => rw [er] at hd; cases hd
    | some r =>
      rw [er] at hd
      cases hd
      have gr : ∀ S : Sto, gIx (.p (bhP r)) (.p (.int 0)) S = .ok (.p (.bool r.2)) S := fun S => rfl
      rw [Nat.zero_add, List.take_succ, er]
      simp -implicitDefEqProofs only [DL.wpW, reduceIte, Nat.reduceAdd, Nat.reduceLeDiff, DL.sFor_ap, Function.comp_apply, gr]
      refine ⟨_, _, rfl, ?_, li, by trivial, by simp⟩
      rw [List.length_map, List.length_take]
      omega
  · rintro acc S' ⟨rfl, rfl⟩
    rw [List.length_map, List.length_map, Nat.zero_add, List.take_length]
    have g2 := gToTup_d (l := (machM e).map Mv.py) (S := S ++ T3 (behs e (e.cnt + 1)) (rowsU e (e.cnt + 1)) (machM e)) (n := S.length + 2) tg
    simp -implicitDefEqProofs only [DL.wpW, reduceIte, Nat.reduceAdd, Nat.reduceLeDiff, DL.sFor_ap, gToTup_l, g2]
    exact ⟨by simp [machP, machE], _, rfl⟩
end
end My

namespace My
open PySem PySem.Spec PyProof.Rows L2 DL
/-! ### parts as the law draws them -/
inductive Pt where
  | plain (nm lab : Str) (c : Nat) (k : Bool)
  | shape (nm lab : Str) (c w h : Nat) (rows : List (List Nat))
  | strip (ac : Bool) (nm j : Str) (e : Ex)
def dirS (ac : Bool) : Str := if ac = true then "across" else "down"
def Pt.py : Pt → PyData
  | .plain nm lab c k => .tuple [.str "plain", .str nm, .str lab, .int c, .bool k]
  | .shape nm lab c w h rows => .tuple [.str "shape", .str nm, .str lab, .int c, imgD rows]
  | .strip ac nm j e => .tuple [.str (dirS ac), .str nm, .str j, e.py]
/-- a leaf, or a strip of few places, not deep -/
def Pt.good : Pt → Prop
  | .plain _ _ _ _ => True
  | .shape _ _ _ w h rows => imgOk w h rows ∧ 1 ≤ w ∧ w ≤ 16 ∧ 1 ≤ h ∧ h ≤ 16
  | .strip _ _ _ e => e.fin ∧ e.cnt ≤ 8 ∧ e.dep < 6
abbrev rL (rows : List (List Nat)) : O := .lst ((rD rows).map .p)
section
variable {S : Sto} {n : Nat} {b : O} {Q : D → Sto → Prop} {E : Xc → Sto → Prop}
/-- the row of one line of pixels -/
theorem pixrow_wp {w i j : Nat} {ρ : DL.Env} {T : Sto} (hl : n < S.length) (hb : IsBox b) (hc : ClS 0 S) (hcT : ClS 0 T) (hw : w < 1000) (h0 : (wipeE ρ [j])[0]? = some (some (.ob n))) (hi : ρ[i]? = some (some (.int w))) (hj : 0 < j)
    (q : ∀ b' cs, IsBox b' → cs.length = w → pixL cs → Q (.str (sx cs)) (S.set n b' ++ T)) :
    WE (eJoin (eC (.str "")) (eLc (iRgA (aCons (eVar i) aNil)) (gNm j) bYes (eBin gIx (eC (.str ".#")) (eCall 2 G_law_draw (aCons (eVar 0) (aCons (eC (.int 2)) aNil)))) [j]) ρ (S.set n b ++ T)) Q E := by
  refine join_lc ?_
  have bw : big62 (w : Int) = true := big62_nat (by omega)
  simp -implicitDefEqProofs only [DL.wpW, reduceIte, Nat.reduceAdd, Nat.reduceLeDiff, DL.sFor_ap, hi, bw, Int.toNat_natCast]
  refine WE_lc (fun k acc S' => ∃ b' cs, IsBox b' ∧ cs.length = k ∧ pixL cs ∧ acc = cs.map (fun c => PyData.str (sx [c])) ∧ S' = S.set n b' ++ T) _ 0 _ _ ⟨b, [], hb, rfl, (fun _ z => by cases z), rfl, rfl⟩ ?_ ?_
  · rintro k d acc S' hd ⟨b2, cs, hb2, hlen, hp, rfl, rfl⟩
    obtain ⟨hk, rfl⟩ := rngL_get hd
    have h00 : ((wipeE ρ [j]).set j (some (.int (0 + (k : Int)))))[0]? = some (some (.ob n)) := by
      rw [List.getElem?_set_ne (by omega)]; exact h0
    simp -implicitDefEqProofs only [DL.wpW, reduceIte, Nat.reduceAdd, Nat.reduceLeDiff, DL.sFor_ap, h00]
    refine draw_wp (get_set hl) hb2 (by decide) (clS_app (clS_set hc hb2.cl) hcT) fun v b3 hv0 hv1 hb3 => ?_
    rw [set_app hl]
    have h2 : v = 0 ∨ v = 1 := by omega
    have hL : cs.length < 16777216 := by omega
    rcases h2 with rfl | rfl
    · simp -implicitDefEqProofs only [DL.wpW, reduceIte, Nat.reduceAdd, Nat.reduceLeDiff, DL.sFor_ap, gIx_str, dotL, dotS, List.length_map, hL]
      refine ⟨_, _, rfl, trivial, trivial, b3, cs ++ [46], hb3, by simp [hlen], fun x hx => ?_, by simp, rfl⟩
      rcases List.mem_append.mp hx with z | z
      · exact hp x z
      · rw [List.mem_singleton.mp z]; exact .inl rfl
    · simp -implicitDefEqProofs only [DL.wpW, reduceIte, Nat.reduceAdd, Nat.reduceLeDiff, DL.sFor_ap, gIx_str, dotL, dotS, List.length_map, hL]
      refine ⟨_, _, rfl, trivial, trivial, b3, cs ++ [35], hb3, by simp [hlen], fun x hx => ?_, by simp, rfl⟩
      rcases List.mem_append.mp hx with z | z
      · exact hp x z
      · rw [List.mem_singleton.mp z]; exact .inr rfl
  · rintro acc S' ⟨b2, cs, hb2, hlen, hp, rfl, rfl⟩
    rw [rngL_length, Nat.zero_add] at hlen
    exact ⟨cs, by omega, rfl, q b2 cs hb2 hlen hp⟩
theorem rows_wp {w h : Nat} (hs : S[n]? = some b) (hb : IsBox b) (hc : ClS 0 S) (hw : w < 1000) (hh : h < 1000)
    (q : ∀ b' rows, IsBox b' → imgOk w h rows → Q (.p (imgD rows)) (S.set n b')) : WE (G_law_rows [.ob n, .int w, .int h] S) Q E := by
  have hl : n < S.length := (List.getElem?_eq_some_iff.mp hs).1
  refine WE_def (fun d S' => ∃ b' rows T, IsBox b' ∧ imgOk w h rows ∧ d = .p (imgD rows) ∧ S' = S.set n b' ++ T) ?_ (fun d S' ⟨b', rows, T, hb', hp, e1, e2⟩ => ⟨_, S.set n b', T, e1, e2, by simp, clS_set hc hb'.cl, q b' rows hb' hp⟩)
  rw [show start0 NN_law_rows [.ob n, .int w, .int h] = [some (.ob n), some (.int w), some (.int h), none, none, none] from rfl]
  unfold B_law_rows
  refine WS_cut (fun ρ S1 => S1 = S.set n b ++ [rL []] ∧ ρ = [some (.ob n), some (.int w), some (.int h), some (.ob S.length), none, none]) ?_ ?_
  · simp -implicitDefEqProofs only [DL.wpW, reduceIte, Nat.reduceAdd, Nat.reduceLeDiff, DL.sFor_ap]
    exact ⟨by rw [← self_set hs]; rfl, by trivial⟩
  rintro ρ S1 ⟨rfl, rfl⟩
  refine WS_cut (fun ρ S1 => ∃ b' rows v4, IsBox b' ∧ imgOk w h rows ∧ S1 = S.set n b' ++ [rL rows] ∧ ρ = [some (.ob n), some (.int w), some (.int h), some (.ob S.length), v4, none]) ?_ ?_
  · have bh : big62 (h : Int) = true := big62_nat (by omega)
    simp -implicitDefEqProofs only [DL.wpW, reduceIte, Nat.reduceAdd, Nat.reduceLeDiff, DL.sFor_ap, bh, Int.toNat_natCast]
    refine WS_for (fun i ρ S1 => ∃ b' rows v4, IsBox b' ∧ imgOk w i rows ∧ S1 = S.set n b' ++ [rL rows] ∧ ρ = [some (.ob n), some (.int w), some (.int h), some (.ob S.length), v4, none]) _ 0 _ _
      ⟨b, [], none, hb, ⟨rfl, fun _ z => by cases z⟩, rfl, rfl⟩ ?_ ?_
    · rintro i d ρ S2 hd ⟨b6, rows, v4, hb6, hr, rfl, rfl⟩
      obtain ⟨hi, rfl⟩ := rngL_get hd
      have at1 : (S.set n b6 ++ [rL rows])[S.length]? = some (rL rows) := by rw [List.getElem?_append_right (by simp)]; simp
      simp -implicitDefEqProofs only [DL.wpW, reduceIte, Nat.reduceAdd, Nat.reduceLeDiff, DL.sFor_ap, at1]
      refine pixrow_wp (w := w) hl hb6 hc (clS_one clO_p) (by omega) rfl rfl (by decide) fun b7 cs hb7 hcl hpx => ?_
      have at2 : (S.set n b7 ++ [rL rows])[S.length]? = some (rL rows) := by rw [List.getElem?_append_right (by simp)]; simp
      have hL : rows.length < 16777216 := by rw [hr.1]; omega
      simp -implicitDefEqProofs only [DL.wpW, reduceIte, Nat.reduceAdd, Nat.reduceLeDiff, DL.sFor_ap, at2, List.length_map, hL]
      refine ⟨trivial, b7, rows ++ [cs], some (.int (0 + i)), hb7, ⟨by simp [hr.1], fun r hr2 => ?_⟩, ?_, rfl⟩
      · rcases List.mem_append.mp hr2 with z | z
        · exact hr.2 r z
        · rw [List.mem_singleton.mp z]; exact ⟨hcl, hpx⟩
      · rw [List.set_append_right _ _ (by simp)]
        simp
    · rintro ρ S2 ⟨b6, rows, v4, hb6, hr, rfl, rfl⟩
      rw [rngL_length] at hr
      exact ⟨b6, rows, v4, hb6, by simpa using hr, rfl, rfl⟩
  rintro ρ S1 ⟨b5, rows, v4, hb5, hr, rfl, rfl⟩
  have gt : gToTup [.ob S.length] (S.set n b5 ++ [rL rows]) = .ok (.p (imgD rows)) (S.set n b5 ++ [rL rows]) := gToTup_d (by rw [List.getElem?_append_right (by simp)]; simp)
  simp -implicitDefEqProofs only [DL.wpW, reduceIte, Nat.reduceAdd, Nat.reduceLeDiff, DL.sFor_ap, gt]
  exact ⟨b5, rows, _, hb5, hr, rfl, rfl⟩
/-! a drawn label -/
abbrev sgS : Str := Str.ofString "abz09 _,;(){}=|*+?.#'\"\n"
theorem sgL : sgS.length = 23 := by decide +kernel
theorem sgT : sgS.cps.toList.length = 23 := by decide +kernel
theorem sg_at {v : Nat} (h : v < 23) : ∃ c, sgS.cps.toList[v]? = some c := ⟨_, List.getElem?_eq_getElem (by rw [sgT]; exact h)⟩
theorem label_wp (hs : S[n]? = some b) (hb : IsBox b) (hc : ClS 0 S) (q : ∀ b' (lab : Str), IsBox b' → Q (.str lab) (S.set n b')) : WE (G_law_label [.ob n] S) Q E := by
  have hl : n < S.length := (List.getElem?_eq_some_iff.mp hs).1
  refine WE_def (fun d S' => ∃ b' lab, IsBox b' ∧ d = .str lab ∧ S' = S.set n b') ?_ (fun d S' ⟨b', lab, hb', e1, e2⟩ => ⟨_, S.set n b', [], e1, by rw [e2, List.append_nil], by simp, clS_set hc hb'.cl, q b' lab hb'⟩)
  rw [show start0 NN_law_label [.ob n] = [some (.ob n), none, none, none] from rfl]
  unfold B_law_label
  refine WS_cut (fun ρ S1 => S1 = S ∧ ρ = [some (.ob n), some (.str sgS), none, none]) ?_ ?_
  · simp -implicitDefEqProofs only [DL.wpW, reduceIte, Nat.reduceAdd, Nat.reduceLeDiff, DL.sFor_ap]
    all_goals exact ⟨by trivial, by trivial⟩
  rintro ρ S1 ⟨e1, rfl⟩
  rw [e1]
  clear e1 S1
  refine WS_cut (fun ρ S1 => ∃ b' sz, IsBox b' ∧ sz < 4 ∧ S1 = S.set n b' ∧ ρ = [some (.ob n), some (.str sgS), some (.int (sz : Nat)), none]) ?_ ?_
  · simp -implicitDefEqProofs only [DL.wpW, reduceIte, Nat.reduceAdd, Nat.reduceLeDiff, DL.sFor_ap]
    refine draw_wp hs hb (by decide) hc fun v b1 h0 h1 hb1 => ?_
    obtain ⟨v, rfl⟩ := Int.eq_ofNat_of_zero_le h0
    try simp -implicitDefEqProofs only [DL.wpW, reduceIte, Nat.reduceAdd, Nat.reduceLeDiff, DL.sFor_ap]
    exact ⟨b1, v, hb1, by omega, by trivial, by trivial⟩
  rintro ρ S1 ⟨b1, sz, hb1, hsz, rfl, rfl⟩
  simp -implicitDefEqProofs only [DL.wpW, reduceIte, Nat.reduceAdd, Nat.reduceLeDiff, DL.sFor_ap]
  refine join_lc ?_
  have bw : big62 (sz : Int) = true := big62_nat (by omega)
  simp -implicitDefEqProofs only [DL.wpW, reduceIte, Nat.reduceAdd, Nat.reduceLeDiff, DL.sFor_ap, bw, Int.toNat_natCast]
  rw [show wipeE [some (D.ob n), some (.str sgS), some (.int (sz : Nat)), none] [3] = [some (D.ob n), some (.str sgS), some (.int (sz : Nat)), none] from rfl]
  refine WE_lc (fun k acc S' => ∃ b' cs, IsBox b' ∧ cs.length = k ∧ acc = cs.map (fun c => PyData.str (sx [c])) ∧ S' = S.set n b') _ 0 _ _ ⟨b1, [], hb1, rfl, rfl, rfl⟩ ?_ ?_
  · rintro k d acc S' hd ⟨b2, cs, hb2, hlen, rfl, rfl⟩
    obtain ⟨hk, rfl⟩ := rngL_get hd
    have l23 : (23 : Nat) ≤ sizeLine := by rw [sizeLine_eq]; decide
    simp -implicitDefEqProofs only [DL.wpW, reduceIte, Nat.reduceAdd, Nat.reduceLeDiff, DL.sFor_ap, gLen_str, sgL, l23]
    refine draw_wp (set_get hl) hb2 (by decide) (clS_set hc hb2.cl) fun v b3 hv0 hv1 hb3 => ?_
    obtain ⟨v, rfl⟩ := Int.eq_ofNat_of_zero_le hv0
    obtain ⟨c, ec⟩ := sg_at (v := v) (by omega)
    have hL : cs.length < 16777216 := by omega
    simp -implicitDefEqProofs only [DL.wpW, reduceIte, Nat.reduceAdd, Nat.reduceLeDiff, DL.sFor_ap, List.set_set, gIx_str, sgL, l23, ec, List.length_map, hL]
    exact ⟨_, _, rfl, by trivial, trivial, b3, cs ++ [c], hb3, by simp [hlen], by simp, rfl⟩
  · rintro acc S' ⟨b2, cs, hb2, hlen, rfl, rfl⟩
    rw [rngL_length, Nat.zero_add] at hlen
    exact ⟨cs, by omega, rfl, b2, _, hb2, rfl, rfl⟩
end
end My

namespace My
open PySem PySem.Spec PyProof.Rows L2 DL
theorem s1 : (Str.ofString "plain" == Str.ofString "shape") = false := by decide +kernel
theorem s2 : (Str.ofString "across" == Str.ofString "shape") = false := by decide +kernel
theorem s3 : (Str.ofString "down" == Str.ofString "shape") = false := by decide +kernel
theorem s4 : (Str.ofString "down" == Str.ofString "across") = false := by decide +kernel
theorem s5 (ac : Bool) : (dirS ac == Str.ofString "shape") = false := by cases ac; exact s3; exact s2
theorem s6 (ac : Bool) : (dirS ac == Str.ofString "across") = ac := by cases ac; exact s4; exact beq_self_eq_true _
abbrev pyL (Ps : List Pt) : O := .lst (Ps.map fun p => D.p p.py)
theorem pyL_cl {k : Nat} {Ps : List Pt} : ClO k (pyL Ps) := fun d hd => by
  obtain ⟨p, _, rfl⟩ := List.mem_map.mp hd
  trivial
abbrev frL (v : Nat) : O := .lst [.p (.int (v : Nat))]
theorem frL_cl {k v : Nat} : ClO k (frL v) := fun d hd => by
  rw [List.mem_singleton.mp hd]; trivial
/-- the parts: a tuple, or a list that changes, apart from the box and the count -/
inductive PAt (n q : Nat) (Ps : List Pt) : D → Sto → Prop
  | t {S} : PAt n q Ps (.p (.tuple (Ps.map Pt.py))) S
  | o {S m} : m ≠ n → m ≠ q → S[m]? = some (pyL Ps) → PAt n q Ps (.ob m) S
section
variable {S : Sto} {n m q : Nat} {b : O} {Q : D → Sto → Prop} {E : Xc → Sto → Prop} {pd : D} {Ps : List Pt}
theorem PAt.set_n {o : O} (h : PAt n q Ps pd S) : PAt n q Ps pd (S.set n o) := by
  cases h with
  | t => exact .t
  | o h1 h2 h3 => exact .o h1 h2 (by rw [List.getElem?_set_ne (Ne.symm h1)]; exact h3)
theorem PAt.set_q {o : O} (h : PAt n q Ps pd S) : PAt n q Ps pd (S.set q o) := by
  cases h with
  | t => exact .t
  | o h1 h2 h3 => exact .o h1 h2 (by rw [List.getElem?_set_ne (Ne.symm h2)]; exact h3)
theorem PAt.app {T : Sto} (h : PAt n q Ps pd S) : PAt n q Ps pd (S ++ T) := by
  cases h with
  | t => exact .t
  | o h1 h2 h3 => exact .o h1 h2 (by rw [List.getElem?_append_left (List.getElem?_eq_some_iff.mp h3).1]; exact h3)
theorem PAt.len (h : PAt n q Ps pd S) : gLen [pd] S = .ok (.int (Ps.length : Nat)) S := by
  cases h with
  | t => simp -implicitDefEqProofs only [DL.wpW, reduceIte, Nat.reduceAdd, Nat.reduceLeDiff, gLen_tup, List.length_map]
  | o h1 h2 h3 => simp [h3]
theorem PAt.at_ (h : PAt n q Ps pd S) {k : Nat} {pt : Pt} (e : Ps[k]? = some pt) : gIx pd (.p (.int (k : Nat))) S = .ok (.p pt.py) S := by
  cases h with
  | t => simp [e]
  | o h1 h2 h3 => simp [h3, e]
theorem mulS {i j : Int} (h : i.natAbs < 1000) : gMul (.p (.int i)) (.p (.int j)) S = .ok (.int (i * j)) S := by
  rw [gMul_int, if_pos (.inl (by omega))]
theorem leaf_wp {nm : Str} (hs : S[n]? = some b) (hb : IsBox b) (hc : ClS 0 S) (k : ∀ b' pt, IsBox b' → Pt.good pt → Q (.p pt.py) (S.set n b')) : WE (G_law_leaf [.ob n, .str nm] S) Q E := by
  have hl : n < S.length := (List.getElem?_eq_some_iff.mp hs).1
  refine WE_def (fun d S' => ∃ b' pt, IsBox b' ∧ Pt.good pt ∧ d = .p pt.py ∧ S' = S.set n b') ?_ (fun d S' ⟨b', pt, hb', hp, e1, e2⟩ => ⟨_, S.set n b', [], e1, by rw [e2, List.append_nil], by simp, clS_set hc hb'.cl, k b' pt hb' hp⟩)
  rw [show start0 NN_law_leaf [.ob n, .str nm] = [some (.ob n), some (.str nm), none] from rfl]
  unfold B_law_leaf
  refine WS_cut (fun ρ S1 => ∃ b' c, IsBox b' ∧ S1 = S.set n b' ∧ ρ = [some (.ob n), some (.str nm), some (.int (c : Nat))]) ?_ ?_
  · simp -implicitDefEqProofs only [DL.wpW, reduceIte, Nat.reduceAdd, Nat.reduceLeDiff, DL.sFor_ap]
    refine draw_wp hs hb (by decide) hc fun v b1 h0 h1 hb1 => ?_
    obtain ⟨v, rfl⟩ := Int.eq_ofNat_of_zero_le h0
    try simp -implicitDefEqProofs only [DL.wpW, reduceIte, Nat.reduceAdd, Nat.reduceLeDiff, DL.sFor_ap]
    refine draw_wp (set_get hl) hb1 (by decide) (clS_set hc hb1.cl) fun w b2 h2 h3 hb2 => ?_
    obtain ⟨w, rfl⟩ := Int.eq_ofNat_of_zero_le h2
    rw [mulS (by omega)]
    simp -implicitDefEqProofs only [DL.wpW, reduceIte, Nat.reduceAdd, Nat.reduceLeDiff, DL.sFor_ap, List.set_set]
    exact ⟨b2, v * w, hb2, by trivial, by rw [Int.natCast_mul]⟩
  rintro ρ S1 ⟨b2, c, hb2, rfl, rfl⟩
  refine WS_cut (fun ρ S1 => ∃ b', IsBox b' ∧ S1 = S.set n b' ∧ ρ = [some (.ob n), some (.str nm), some (.int (c : Nat))]) ?_ ?_
  · simp -implicitDefEqProofs only [DL.wpW, reduceIte, Nat.reduceAdd, Nat.reduceLeDiff, DL.sFor_ap]
    refine draw_wp (set_get hl) hb2 (by decide) (clS_set hc hb2.cl) fun v b3 h0 h1 hb3 => ?_
    have h2 : v = 0 ∨ v = 1 := by omega
    rcases h2 with rfl | rfl
    · simp -implicitDefEqProofs only [DL.wpW, reduceIte, Nat.reduceAdd, Nat.reduceLeDiff, DL.sFor_ap, List.set_set, beq_self_eq_true]
      refine label_wp (set_get hl) hb3 (clS_set hc hb3.cl) fun b4 lab hb4 => ?_
      simp -implicitDefEqProofs only [DL.wpW, reduceIte, Nat.reduceAdd, Nat.reduceLeDiff, DL.sFor_ap, List.set_set]
      refine draw_wp (set_get hl) hb4 (by decide) (clS_set hc hb4.cl) fun v b5 h0 h1 hb5 => ?_
      simp -implicitDefEqProofs only [DL.wpW, reduceIte, Nat.reduceAdd, Nat.reduceLeDiff, DL.sFor_ap, List.set_set]
      exact ⟨b5, .plain nm lab c (v == 0), hb5, trivial, by trivial, by trivial⟩
    · have e10 : ((1 : Int) == 0) = false := rfl
      simp -implicitDefEqProofs only [DL.wpW, reduceIte, Nat.reduceAdd, Nat.reduceLeDiff, DL.sFor_ap, List.set_set, e10]
      exact ⟨b3, hb3, by trivial, by trivial⟩
  rintro ρ S1 ⟨b3, hb3, rfl, rfl⟩
  simp -implicitDefEqProofs only [DL.wpW, reduceIte, Nat.reduceAdd, Nat.reduceLeDiff, DL.sFor_ap]
  refine label_wp (set_get hl) hb3 (clS_set hc hb3.cl) fun b4 lab hb4 => ?_
  simp -implicitDefEqProofs only [DL.wpW, reduceIte, Nat.reduceAdd, Nat.reduceLeDiff, DL.sFor_ap, List.set_set]
  refine draw_wp (set_get hl) hb4 (by decide) (clS_set hc hb4.cl) fun w b5 h0 h1 hb5 => ?_
  obtain ⟨w, rfl⟩ := Int.eq_ofNat_of_zero_le h0
  simp -implicitDefEqProofs only [DL.wpW, reduceIte, Nat.reduceAdd, Nat.reduceLeDiff, DL.sFor_ap, List.set_set]
  refine draw_wp (set_get hl) hb5 (by decide) (clS_set hc hb5.cl) fun h b6 h2 h3 hb6 => ?_
  obtain ⟨h, rfl⟩ := Int.eq_ofNat_of_zero_le h2
  rw [show (1 : Int) + (w : Int) = ((1 + w : Nat) : Int) by omega]
  simp -implicitDefEqProofs only [DL.wpW, reduceIte, Nat.reduceAdd, Nat.reduceLeDiff, DL.sFor_ap, List.set_set]
  rw [show (1 : Int) + (h : Int) = ((1 + h : Nat) : Int) by omega]
  refine rows_wp (set_get hl) hb6 (clS_set hc hb6.cl) (by omega) (by omega) fun b7 rows hb7 hr => ?_
  simp -implicitDefEqProofs only [DL.wpW, reduceIte, Nat.reduceAdd, Nat.reduceLeDiff, DL.sFor_ap, List.set_set]
  exact ⟨b7, .shape nm lab c (1 + w) (1 + h) rows, hb7, ⟨hr, by omega, by omega, by omega, by omega⟩, by trivial, by trivial⟩
theorem place_wp {ac : Bool} (hs : S[n]? = some b) (hp : PAt n q Ps pd S) (hb : IsBox b) (hc : ClS 0 S) (hg : ∀ p ∈ Ps, p.good) (h1 : 1 ≤ Ps.length) (h2 : Ps.length < 100)
    (k : ∀ b' p lo hi c, IsBox b' → Q (.p (Ex.pl p lo hi c).py) (S.set n b')) : WE (G_law_place [.ob n, pd, .str (dirS ac)] S) Q E := by
  have hl : n < S.length := (List.getElem?_eq_some_iff.mp hs).1
  refine WE_def (fun d S' => ∃ b' p lo hi c, IsBox b' ∧ d = .p (Ex.pl p lo hi c).py ∧ S' = S.set n b') ?_ (fun d S' ⟨b', p, lo, hi, c, hb', e1, e2⟩ => ⟨_, S.set n b', [], e1, by rw [e2, List.append_nil], by simp, clS_set hc hb'.cl, k b' p lo hi c hb'⟩)
  rw [show start0 NN_law_place [.ob n, pd, .str (dirS ac)] = [some (.ob n), some pd, some (.str (dirS ac)), none, none, none, none, none] from rfl]
  unfold B_law_place
  have hm : ∀ b' : O, gLen [pd] (S.set n b') = .ok (.int (Ps.length : Nat)) (S.set n b') := fun b' => hp.set_n.len
  refine WS_cut (fun ρ S1 => ∃ b' k, IsBox b' ∧ k < Ps.length ∧ S1 = S.set n b' ∧ ρ = [some (.ob n), some pd, some (.str (dirS ac)), some (.int (k : Nat)), none, none, none, none]) ?_ ?_
  · simp -implicitDefEqProofs only [DL.wpW, reduceIte, Nat.reduceAdd, Nat.reduceLeDiff, DL.sFor_ap]
    refine draw_wp hs hb (by decide) hc fun v b1 h0 h1' hb1 => ?_
    obtain ⟨v, rfl⟩ := Int.eq_ofNat_of_zero_le h0
    simp -implicitDefEqProofs only [DL.wpW, reduceIte, Nat.reduceAdd, Nat.reduceLeDiff, DL.sFor_ap, hm]
    rw [if_pos (by omega)]
    exact ⟨b1, v % Ps.length, hb1, Nat.mod_lt _ (by omega), by trivial, by simp⟩
  rintro ρ S1 ⟨b1, k, hb1, hk, rfl, rfl⟩
  have ek : Ps[k]? = some Ps[k] := List.getElem?_eq_getElem hk
  have gk := hg _ (List.getElem_mem hk)
  generalize Ps[k] = pt at ek gk
  have hat : gIx pd (.p (.int (k : Nat))) (S.set n b1) = .ok (.p pt.py) (S.set n b1) := hp.set_n.at_ ek
  refine WS_cut (fun ρ S1 => S1 = S.set n b1 ∧ ρ = [some (.ob n), some pd, some (.str (dirS ac)), some (.int (k : Nat)), some (.p pt.py), none, none, none]) ?_ ?_
  · simp -implicitDefEqProofs only [DL.wpW, reduceIte, Nat.reduceAdd, Nat.reduceLeDiff, DL.sFor_ap, hat]
    all_goals exact ⟨by trivial, by trivial⟩
  rintro ρ S1 ⟨rfl, rfl⟩
  refine WS_cut (fun ρ S1 => ∃ b' c, IsBox b' ∧ S1 = S.set n b' ∧ ρ = [some (.ob n), some pd, some (.str (dirS ac)), some (.int (k : Nat)), some (.p pt.py), some (.int (c : Nat)), none, none]) ?_ ?_
  · simp -implicitDefEqProofs only [DL.wpW, reduceIte, Nat.reduceAdd, Nat.reduceLeDiff, DL.sFor_ap]
    refine draw_wp (set_get hl) hb1 (by decide) (clS_set hc hb1.cl) fun v b2 h0 h1' hb2 => ?_
    obtain ⟨v, rfl⟩ := Int.eq_ofNat_of_zero_le h0
    simp -implicitDefEqProofs only [DL.wpW, reduceIte, Nat.reduceAdd, Nat.reduceLeDiff, DL.sFor_ap, List.set_set]
    refine draw_wp (set_get hl) hb2 (by decide) (clS_set hc hb2.cl) fun w b3 h2 h3 hb3 => ?_
    obtain ⟨w, rfl⟩ := Int.eq_ofNat_of_zero_le h2
    rw [mulS (by omega)]
    simp -implicitDefEqProofs only [DL.wpW, reduceIte, Nat.reduceAdd, Nat.reduceLeDiff, DL.sFor_ap, List.set_set]
    exact ⟨b3, v * w, hb3, by trivial, by rw [Int.natCast_mul]⟩
  rintro ρ S1 ⟨b2, c, hb2, rfl, rfl⟩
  refine WS_cut (fun ρ S1 => ∃ b', IsBox b' ∧ S1 = S.set n b' ∧ ρ = [some (.ob n), some pd, some (.str (dirS ac)), some (.int (k : Nat)), some (.p pt.py), some (.int (c : Nat)), none, none]) ?_ ?_
  · simp -implicitDefEqProofs only [DL.wpW, reduceIte, Nat.reduceAdd, Nat.reduceLeDiff, DL.sFor_ap]
    refine draw_wp (set_get hl) hb2 (by decide) (clS_set hc hb2.cl) fun v b3 h0 h1' hb3 => ?_
    have h2 : v = 0 ∨ v = 1 := by omega
    rcases h2 with rfl | rfl
    · cases pt with
      | plain nm lab c0 k0 =>
        simp -implicitDefEqProofs only [DL.wpW, reduceIte, Nat.reduceAdd, Nat.reduceLeDiff, DL.sFor_ap, List.set_set, beq_self_eq_true, Pt.py, s1]
        exact ⟨b3, k, 1, 24, c, hb3, by trivial, by trivial⟩
      | strip ac2 nm j e =>
        simp -implicitDefEqProofs only [DL.wpW, reduceIte, Nat.reduceAdd, Nat.reduceLeDiff, DL.sFor_ap, List.set_set, beq_self_eq_true, Pt.py, s5]
        exact ⟨b3, k, 1, 24, c, hb3, by trivial, by trivial⟩
      | shape nm lab c0 w h rows =>
        obtain ⟨g2, g3, g4, g5, g6⟩ := gk
        have er : ∃ r, rows[0]? = some r ∧ r.length = w := by
          have hl0 : 0 < rows.length := by rw [g2.1]; omega
          exact ⟨rows[0], List.getElem?_eq_getElem hl0, (g2.2 _ (List.getElem_mem hl0)).1⟩
        obtain ⟨r, er, lr⟩ := er
        have z1 : w ≤ 16777216 := by omega
        cases ac with
        | true =>
          simp -implicitDefEqProofs only [DL.wpW, reduceIte, Nat.reduceAdd, Nat.reduceLeDiff, DL.sFor_ap, List.set_set, beq_self_eq_true, Pt.py, dirS, List.getElem?_map, er, gLen_str, sx_len, lr, z1, List.length_map, g2.1]
          exact ⟨b3, k, w, w, c, hb3, by trivial, by trivial⟩
        | false =>
          simp -implicitDefEqProofs only [DL.wpW, reduceIte, Nat.reduceAdd, Nat.reduceLeDiff, DL.sFor_ap, List.set_set, beq_self_eq_true, Pt.py, dirS, s4, List.getElem?_map, er, gLen_str, sx_len, lr, z1, List.length_map, g2.1]
          exact ⟨b3, k, h, h, c, hb3, by trivial, by trivial⟩
    · have e10 : ((1 : Int) == 0) = false := rfl
      simp -implicitDefEqProofs only [DL.wpW, reduceIte, Nat.reduceAdd, Nat.reduceLeDiff, DL.sFor_ap, List.set_set, e10]
      exact ⟨b3, hb3, by trivial, by trivial⟩
  rintro ρ S1 ⟨b3, hb3, rfl, rfl⟩
  refine WS_cut (fun ρ S1 => ∃ b' lo, IsBox b' ∧ S1 = S.set n b' ∧ ρ = [some (.ob n), some pd, some (.str (dirS ac)), some (.int (k : Nat)), some (.p pt.py), some (.int (c : Nat)), some (.int (lo : Nat)), none]) ?_ ?_
  · simp -implicitDefEqProofs only [DL.wpW, reduceIte, Nat.reduceAdd, Nat.reduceLeDiff, DL.sFor_ap]
    refine draw_wp (set_get hl) hb3 (by decide) (clS_set hc hb3.cl) fun v b4 h0 h1' hb4 => ?_
    obtain ⟨v, rfl⟩ := Int.eq_ofNat_of_zero_le h0
    simp -implicitDefEqProofs only [DL.wpW, reduceIte, Nat.reduceAdd, Nat.reduceLeDiff, DL.sFor_ap, List.set_set]
    exact ⟨b4, 1 + v, hb4, by trivial, by simp⟩
  rintro ρ S1 ⟨b4, lo, hb4, rfl, rfl⟩
  simp -implicitDefEqProofs only [DL.wpW, reduceIte, Nat.reduceAdd, Nat.reduceLeDiff, DL.sFor_ap]
  refine draw_wp (set_get hl) hb4 (by decide) (clS_set hc hb4.cl) fun v2 b5 h20 h21 hb5 => ?_
  obtain ⟨v2, rfl⟩ := Int.eq_ofNat_of_zero_le h20
  simp -implicitDefEqProofs only [DL.wpW, reduceIte, Nat.reduceAdd, Nat.reduceLeDiff, DL.sFor_ap, List.set_set]
  exact ⟨b5, k, lo, lo + v2, c, hb5, by simp [Ex.py], by trivial⟩
end
end My

namespace My
open PySem PySem.Spec PyProof.Rows L2 DL
abbrev TS (S : Sto) (n q : Nat) (b : O) (v : Nat) : Sto := (S.set n b).set q (frL v)
abbrev itL (es : List Ex) : O := .lst (es.map fun e => D.p e.py)
theorem itL_cl {k : Nat} {es : List Ex} : ClO k (itL es) := fun d hd => by
  obtain ⟨p, _, rfl⟩ := List.mem_map.mp hd
  trivial
section
variable {S : Sto} {n m q : Nat} {b b' : O} {v v' : Nat} {Q : D → Sto → Prop} {E : Xc → Sto → Prop} {pd : D} {Ps : List Pt}
theorem TS_n (hn : n < S.length) (h : n ≠ q) {T : Sto} : (TS S n q b v ++ T)[n]? = some b := by
  rw [List.getElem?_append_left (by simpa using hn), List.getElem?_set_ne (Ne.symm h), List.getElem?_set_self hn]
theorem TS_q (hq : q < S.length) {T : Sto} : (TS S n q b v ++ T)[q]? = some (frL v) := by
  rw [List.getElem?_append_left (by simpa using hq), List.getElem?_set_self (by simpa using hq)]
theorem TS_sn (hn : n < S.length) (h : n ≠ q) {T : Sto} : (TS S n q b v ++ T).set n b' = TS S n q b' v ++ T := by
  rw [List.set_append_left _ _ (by simpa using hn), List.set_comm _ _ (Ne.symm h), List.set_set]
theorem TS_sq (hq : q < S.length) {T : Sto} : (TS S n q b v ++ T).set q (frL v') = TS S n q b v' ++ T := by
  rw [List.set_append_left _ _ (by simpa using hq), List.set_set]
theorem TS_TS (hn : n < S.length) (hq : q < S.length) (h : n ≠ q) {T : Sto} : TS (TS S n q b v ++ T) n q b' v' = TS S n q b' v' ++ T := by
  show ((TS S n q b v ++ T).set n b').set q (frL v') = _
  rw [TS_sn hn h, TS_sq hq]
theorem TS_cl (hc : ClS 0 S) (hb : IsBox b) {T : Sto} (hT : ClS 0 T) : ClS 0 (TS S n q b v ++ T) := clS_app (clS_set (clS_set hc hb.cl) frL_cl) hT
theorem TS_self (hn : S[n]? = some b) (hq : S[q]? = some (frL v)) : S = TS S n q b v := by
  show S = (S.set n b).set q (frL v)
  rw [← self_set hn]
  exact self_set hq
theorem itL_snoc {es : List Ex} {e : Ex} : O.lst ((es.map fun p => D.p p.py) ++ [D.p e.py]) = itL (es ++ [e]) := by simp [itL]
theorem TS_last {x : O} : (TS S n q b v ++ [x])[S.length]? = some x := by
  rw [List.getElem?_append_right (by simp)]; simp
theorem TS_lasts {x y : O} : (TS S n q b v ++ [x]).set S.length y = TS S n q b v ++ [y] := by
  rw [List.set_append_right _ _ (by simp)]; simp
/-- what choices promise -/
abbrev ChS (n q : Nat) (pd : D) (Ps : List Pt) (ac : Bool) (d f : Nat) : Prop := ∀ {S : Sto} {b : O} {v : Nat} {Q : D → Sto → Prop} {E : Xc → Sto → Prop}, S[n]? = some b → S[q]? = some (frL v) → PAt n q Ps pd S → IsBox b → ClS 0 S → 1 ≤ v → v < 100 →
    (∀ (b' : O) (e : Ex) (v' : Nat), IsBox b' → e.fin → e.dep ≤ d → e.cnt + v' = v → Q (.p e.py) (TS S n q b' v')) → WE (G_law_choice f [.ob n, pd, .str (dirS ac), .int (d : Nat), .ob q] S) Q E
theorem items_ok {ac : Bool} {d f : Nat} (hnq : n ≠ q) (hn : n < S.length) (hq : q < S.length) (hp : PAt n q Ps pd S) (hc : ClS 0 S) (ih : ChS n q pd Ps ac d f) {cn k : Nat} (hk2 : 1 ≤ k) (hk3 : k ≤ 3) (hb : IsBox b) (hv : 2 ≤ v) (hv2 : v < 100) :
    WS (forL (gNm 7) (sIf (asB (eBin gGt (eBin gIx (eVar 4) (eC (.int 0))) (eC (.int 0)))) (sExpr (eMth gApp (eVar 6) (aCons (eCall 5 (G_law_choice f) (aCons (eVar 0) (aCons (eVar 1) (aCons (eVar 2) (aCons (eBin gSub (eVar 3) (eC (.int 1))) (aCons (eVar 4) (aNil))))))) (aNil)))) (sNil)) (fun _ => True) (rngL 0 k)
      [some (.ob n), some pd, some (.str (dirS ac)), some (.int ((d + 1 : Nat) : Int)), some (.ob q), some (.int (cn : Nat)), some (.ob S.length), none] (TS S n q b v ++ [itL []]))
      (Qn fun ρ S' => ∃ (b' : O) (es : List Ex) (v' : Nat) (w7 : Option D), IsBox b' ∧ es.length ≤ 3 ∧ 1 ≤ es.length ∧ (∀ e ∈ es, Ex.fin e ∧ Ex.dep e ≤ d) ∧ cntL es + v' = v ∧ S' = TS S n q b' v' ++ [itL es] ∧ ρ = [some (.ob n), some pd, some (.str (dirS ac)), some (.int ((d + 1 : Nat) : Int)), some (.ob q), some (.int (cn : Nat)), some (.ob S.length), w7]) := by
  have ed2 : ((d + 1 : Nat) : Int) - 1 = (d : Nat) := by omega
  refine WS_for (fun i ρ S' => ∃ (b' : O) (es : List Ex) (v' : Nat) (w7 : Option D), IsBox b' ∧ es.length ≤ i ∧ (1 ≤ i → 1 ≤ es.length) ∧ (∀ e ∈ es, Ex.fin e ∧ Ex.dep e ≤ d) ∧ cntL es + v' = v ∧ (i = 0 → v' = v) ∧ S' = TS S n q b' v' ++ [itL es] ∧ ρ = [some (.ob n), some pd, some (.str (dirS ac)), some (.int ((d + 1 : Nat) : Int)), some (.ob q), some (.int (cn : Nat)), some (.ob S.length), w7]) _ 0 _ _
    ⟨b, [], v, none, hb, Nat.le_refl _, (fun z => by omega), (fun _ z => by cases z), by simp [cntL], (fun _ => rfl), rfl, rfl⟩ ?_ ?_
  · rintro i dd ρ S' hd ⟨b2, es, v2, w7, hb2, he1, he2, he3, he4, he5, rfl, rfl⟩
    obtain ⟨hi, rfl⟩ := rngL_get hd
    have hi : i < k := hi
    simp only [gNm_ap, WE_ok, List.set_cons_succ, List.set_cons_zero]
    by_cases h0 : (v2 : Int) > 0
    · have h0' : (0 : Int) < v2 := h0
      simp -implicitDefEqProofs only [DL.wpW, reduceIte, Nat.reduceAdd, Nat.reduceLeDiff, DL.sFor_ap, TS_q hq, h0, h0', decide_true, TS_last, ed2]
      refine ih (TS_n hn hnq) (TS_q hq) (hp.set_n.set_q.app) hb2 (TS_cl hc hb2 (clS_one itL_cl)) (by omega) (by omega) fun b3 e v3 hb3 hf hdp hcn => ?_
      rw [TS_TS hn hq hnq]
      have hL : es.length < 16777216 := by omega
      simp -implicitDefEqProofs only [DL.wpW, reduceIte, Nat.reduceAdd, Nat.reduceLeDiff, DL.sFor_ap, TS_last, List.length_map, hL, TS_lasts, itL_snoc]
      refine ⟨by trivial, b3, es ++ [e], v3, _, hb3, by simp; omega, fun _ => by simp, fun x hx => ?_, ?_, (fun z => by omega), by trivial, rfl⟩
      · rcases List.mem_append.mp hx with z | z
        · exact he3 x z
        · rw [List.mem_singleton.mp z]; exact ⟨hf, hdp⟩
      · rw [cntL_app]
        simp only [cntL, List.map_cons, List.map_nil, List.sum_cons, List.sum_nil] at he4 ⊢
        omega
    · have h0' : ¬ (0 : Int) < v2 := h0
      simp -implicitDefEqProofs only [DL.wpW, reduceIte, Nat.reduceAdd, Nat.reduceLeDiff, DL.sFor_ap, TS_q hq, h0, h0', decide_false]
      refine ⟨by trivial, b2, es, v2, _, hb2, by omega, fun _ => ?_, he3, he4, (fun z => by omega), by trivial, rfl⟩
      by_cases hi0 : i = 0
      · have := he5 (by omega)
        omega
      · exact he2 (by omega)
  · rintro ρ S' ⟨b2, es, v2, w7, hb2, he1, he2, he3, he4, he5, rfl, rfl⟩
    rw [rngL_length, Nat.zero_add] at he1 he2
    exact ⟨b2, es, v2, w7, hb2, by omega, he2 (by omega), he3, he4, rfl, rfl⟩
theorem TS_n0 (hn : n < S.length) (h : n ≠ q) : (TS S n q b v)[n]? = some b := by
  have := TS_n (S := S) (q := q) (b := b) (v := v) hn h (T := [])
  rwa [List.append_nil] at this
theorem TS_q0 (hq : q < S.length) : (TS S n q b v)[q]? = some (frL v) := by
  have := TS_q (S := S) (n := n) (b := b) (v := v) hq (T := [])
  rwa [List.append_nil] at this
theorem TS_sn0 (hn : n < S.length) (h : n ≠ q) : (TS S n q b v).set n b' = TS S n q b' v := by
  have := TS_sn (S := S) (q := q) (b := b) (v := v) (b' := b') hn h (T := [])
  rwa [List.append_nil, List.append_nil] at this
theorem TS_cl0 (hc : ClS 0 S) (hb : IsBox b) : ClS 0 (TS S n q b v) := clS_set (clS_set hc hb.cl) frL_cl
theorem choice_wp {ac : Bool} (hnq : n ≠ q) (hg : ∀ p ∈ Ps, p.good) (h1 : 1 ≤ Ps.length) (h2 : Ps.length < 100) : ∀ (d f : Nat), d < f → d < 10 → ChS n q pd Ps ac d f := by
  intro d
  induction d with
  | zero =>
    intro f hf hd S b v Q E hs hq hp hb hc hv hv2 k
    obtain ⟨f, rfl⟩ : ∃ f', f = f' + 1 := ⟨f - 1, by omega⟩
    have hl : n < S.length := (List.getElem?_eq_some_iff.mp hs).1
    have hql : q < S.length := (List.getElem?_eq_some_iff.mp hq).1
    refine WE_def (fun dd S' => ∃ (b' : O) (e : Ex) (v' : Nat), IsBox b' ∧ Ex.fin e ∧ e.dep ≤ 0 ∧ e.cnt + v' = v ∧ dd = .p e.py ∧ S' = TS S n q b' v') ?_ (fun d S' ⟨b', e, v', hb', hf, hdp, hcn, e1, e2⟩ => ⟨_, TS S n q b' v', [], e1, by rw [e2, List.append_nil], by simp, TS_cl0 hc hb', k b' e v' hb' hf hdp hcn⟩)
    rw [show start0 NN_law_choice [.ob n, pd, .str (dirS ac), .int ((0 : Nat) : Int), .ob q] = [some (.ob n), some pd, some (.str (dirS ac)), some (.int ((0 : Nat) : Int)), some (.ob q), none, none, none] from rfl]
    unfold B_law_choice
    refine WS_cut (fun ρ S1 => ∃ b' cn, IsBox b' ∧ S1 = S.set n b' ∧ ρ = [some (.ob n), some pd, some (.str (dirS ac)), some (.int ((0 : Nat) : Int)), some (.ob q), some (.int (cn : Nat)), none, none]) ?_ ?_
    · simp -implicitDefEqProofs only [DL.wpW, reduceIte, Nat.reduceAdd, Nat.reduceLeDiff, DL.sFor_ap]
      refine draw_wp hs hb (by decide) hc fun w b1 h0 h1' hb1 => ?_
      obtain ⟨w, rfl⟩ := Int.eq_ofNat_of_zero_le h0
      try simp -implicitDefEqProofs only [DL.wpW, reduceIte, Nat.reduceAdd, Nat.reduceLeDiff, DL.sFor_ap]
      exact ⟨b1, w, hb1, by trivial, by trivial⟩
    rintro ρ S1 ⟨b1, cn, hb1, rfl, rfl⟩
    have hq1 : (S.set n b1)[q]? = some (frL v) := by rw [List.getElem?_set_ne hnq]; exact hq
    have ev : (v : Int) - 1 = ((v - 1 : Nat) : Int) := by omega
    generalize hz : ((0 : Nat) : Int) = z
    have e0 : (z == 0) = true := by rw [← hz]; rfl
    refine WS_cut (fun _ _ => False) ?_ (fun _ _ h => h.elim)
    simp -implicitDefEqProofs only [DL.wpW, reduceIte, Nat.reduceAdd, Nat.reduceLeDiff, DL.sFor_ap, e0, Rs.bind_ok, hq1, ev]
    refine place_wp (q := q) (TS_n0 hl hnq) hp.set_n.set_q hb1 (TS_cl0 hc hb1) hg h1 h2 fun b2 p lo hi c hb2 => ?_
    show WS (rtO (restD (.p (Ex.pl p lo hi c).py) ((TS S n q b1 (v - 1)).set n b2))) _
    rw [TS_sn0 hl hnq]
    simp -implicitDefEqProofs only [DL.wpW, reduceIte, Nat.reduceAdd, Nat.reduceLeDiff, DL.sFor_ap]
    exact ⟨b2, .pl p lo hi c, v - 1, hb2, by simp [Ex.fin], by simp [Ex.dep], by simp only [Ex.cnt]; omega, by trivial, by trivial⟩
  | succ d ih =>
    intro f hf hd S b v Q E hs hq hp hb hc hv hv2 k
    obtain ⟨f, rfl⟩ : ∃ f', f = f' + 1 := ⟨f - 1, by omega⟩
    have hl : n < S.length := (List.getElem?_eq_some_iff.mp hs).1
    have hql : q < S.length := (List.getElem?_eq_some_iff.mp hq).1
    have ih : ChS n q pd Ps ac d f := ih f (by omega) (by omega)
    refine WE_def (fun dd S' => ∃ (b' : O) (e : Ex) (v' : Nat) (T : Sto), IsBox b' ∧ Ex.fin e ∧ e.dep ≤ d + 1 ∧ e.cnt + v' = v ∧ dd = .p e.py ∧ S' = TS S n q b' v' ++ T) ?_ (fun d S' ⟨b', e, v', T, hb', hf, hdp, hcn, e1, e2⟩ => ⟨_, TS S n q b' v', T, e1, e2, by simp, TS_cl0 hc hb', k b' e v' hb' hf hdp hcn⟩)
    rw [show start0 NN_law_choice [.ob n, pd, .str (dirS ac), .int ((d + 1 : Nat) : Int), .ob q] = [some (.ob n), some pd, some (.str (dirS ac)), some (.int ((d + 1 : Nat) : Int)), some (.ob q), none, none, none] from rfl]
    unfold B_law_choice
    have ed : (((d + 1 : Nat) : Int) == 0) = false := beq_eq_false_iff_ne.mpr (by omega)
    have ed2 : ((d + 1 : Nat) : Int) - 1 = (d : Nat) := by omega
    refine WS_cut (fun ρ S1 => ∃ b' cn, IsBox b' ∧ cn < 8 ∧ S1 = S.set n b' ∧ ρ = [some (.ob n), some pd, some (.str (dirS ac)), some (.int ((d + 1 : Nat) : Int)), some (.ob q), some (.int (cn : Nat)), none, none]) ?_ ?_
    · simp -implicitDefEqProofs only [DL.wpW, reduceIte, Nat.reduceAdd, Nat.reduceLeDiff, DL.sFor_ap]
      refine draw_wp hs hb (by decide) hc fun w b1 h0 h1' hb1 => ?_
      obtain ⟨w, rfl⟩ := Int.eq_ofNat_of_zero_le h0
      try simp -implicitDefEqProofs only [DL.wpW, reduceIte, Nat.reduceAdd, Nat.reduceLeDiff, DL.sFor_ap]
      exact ⟨b1, w, hb1, by omega, by trivial, by trivial⟩
    rintro ρ S1 ⟨b1, cn, hb1, hcn, rfl, rfl⟩
    have hq1 : (S.set n b1)[q]? = some (frL v) := by rw [List.getElem?_set_ne hnq]; exact hq
    have ev : (v : Int) - 1 = ((v - 1 : Nat) : Int) := by omega
    have eTS : S.set n b1 = TS S n q b1 v := self_set hq1
    refine WS_cut (fun ρ S1 => 3 ≤ cn ∧ 2 ≤ v ∧ S1 = TS S n q b1 v ∧ ρ = [some (.ob n), some pd, some (.str (dirS ac)), some (.int ((d + 1 : Nat) : Int)), some (.ob q), some (.int (cn : Nat)), none, none]) ?_ ?_
    · by_cases hk2 : (cn : Int) < 3
      · simp -implicitDefEqProofs only [DL.wpW, reduceIte, Nat.reduceAdd, Nat.reduceLeDiff, DL.sFor_ap, ed, hk2, decide_true, Rs.bind_ok, hq1, ev]
        refine place_wp (q := q) (TS_n0 hl hnq) hp.set_n.set_q hb1 (TS_cl0 hc hb1) hg h1 h2 fun b2 p lo hi c hb2 => ?_
        show WS (rtO (restD (.p (Ex.pl p lo hi c).py) ((TS S n q b1 (v - 1)).set n b2))) _
        rw [TS_sn0 hl hnq]
        simp -implicitDefEqProofs only [DL.wpW, reduceIte, Nat.reduceAdd, Nat.reduceLeDiff, DL.sFor_ap]
        exact ⟨b2, .pl p lo hi c, v - 1, [], hb2, by simp [Ex.fin], by simp [Ex.dep], by simp only [Ex.cnt]; omega, by trivial, by simp⟩
      · by_cases hv3 : (v : Int) < 2
        · simp -implicitDefEqProofs only [DL.wpW, reduceIte, Nat.reduceAdd, Nat.reduceLeDiff, DL.sFor_ap, ed, hk2, hv3, decide_true, decide_false, Rs.bind_ok, hq1, ev]
          refine place_wp (q := q) (TS_n0 hl hnq) hp.set_n.set_q hb1 (TS_cl0 hc hb1) hg h1 h2 fun b2 p lo hi c hb2 => ?_
          show WS (rtO (restD (.p (Ex.pl p lo hi c).py) ((TS S n q b1 (v - 1)).set n b2))) _
          rw [TS_sn0 hl hnq]
          simp -implicitDefEqProofs only [DL.wpW, reduceIte, Nat.reduceAdd, Nat.reduceLeDiff, DL.sFor_ap]
          exact ⟨b2, .pl p lo hi c, v - 1, [], hb2, by simp [Ex.fin], by simp [Ex.dep], by simp only [Ex.cnt]; omega, by trivial, by simp⟩
        · simp -implicitDefEqProofs only [DL.wpW, reduceIte, Nat.reduceAdd, Nat.reduceLeDiff, DL.sFor_ap, ed, hk2, hv3, decide_false, hq1]
          exact ⟨by omega, by omega, eTS, by trivial⟩
    rintro ρ S1 ⟨hk3, hv3, rfl, rfl⟩
    refine WS_cut (fun ρ S1 => 6 ≤ cn ∧ S1 = TS S n q b1 v ∧ ρ = [some (.ob n), some pd, some (.str (dirS ac)), some (.int ((d + 1 : Nat) : Int)), some (.ob q), some (.int (cn : Nat)), none, none]) ?_ ?_
    · by_cases hk6 : (cn : Int) < 6
      · have b2 : ∀ w : Nat, w < 2 → big62 (2 + (w : Int)) = true := fun w h => big62_of (by omega) (by omega)
        simp -implicitDefEqProofs only [DL.wpW, reduceIte, Nat.reduceAdd, Nat.reduceLeDiff, DL.sFor_ap, hk6, decide_true]
        refine draw_wp (TS_n hl hnq) hb1 (by decide) (TS_cl hc hb1 (clS_one (itL_cl (es := [])))) fun w b3 h0 h1' hb3 => ?_
        rw [TS_sn hl hnq]
        obtain ⟨w, rfl⟩ := Int.eq_ofNat_of_zero_le h0
        simp -implicitDefEqProofs only [DL.wpW, reduceIte, Nat.reduceAdd, Nat.reduceLeDiff, DL.sFor_ap, b2 w (by omega)]
        rw [show (2 + (w : Int)).toNat = 2 + w by omega]
        rw [show List.length (TS S n q b1 v) = S.length by simp]
        refine WS_mono (items_ok (cn := cn) (k := 2 + w) hnq hl hql hp hc ih (by omega) (by omega) hb3 hv3 hv2) ?_ (fun _ _ z => z.elim) (fun _ _ z => z.elim) (fun _ _ z => z.elim) (fun _ _ _ z => z.elim)
        rintro ρ S1 ⟨b3, es, v3, w7, hb3, he1, he2, he3, he4, rfl, rfl⟩
        by_cases hes : es.length < 2
        · obtain ⟨e, rfl⟩ : ∃ e, es = [e] := by
            match es, he2, hes with
            | [e], _, _ => exact ⟨e, rfl⟩
          have hh := he3 e (by simp)
          have l2 : (((0 + 1 : Nat)) : Int) < 2 := by decide
          simp -implicitDefEqProofs only [DL.wpW, reduceIte, Nat.reduceAdd, Nat.reduceLeDiff, DL.sFor_ap, TS_last, l2, decide_true, List.map_cons, List.map_nil, List.length_cons, List.length_nil]
          exact ⟨b3, e, v3, _, hb3, hh.1, by omega, by simpa [cntL] using he4, by trivial, by trivial⟩
        · have hes2 : ¬ ((es.length : Nat) : Int) < 2 := by omega
          have gt : gToTup [.ob S.length] (TS S n q b3 v3 ++ [itL es]) = .ok (.p (.tuple (es.map Ex.py))) (TS S n q b3 v3 ++ [itL es]) := gToTup_d (by rw [TS_last]; simp [dL])
          have e33 : ((3 : Nat) : Int) - 3 = 0 := rfl
          have e44 : ((4 : Nat) : Int) - 3 = 1 := rfl
          have e55 : ((5 : Nat) : Int) - 3 = 2 := rfl
          have hk : cn = 3 ∨ cn = 4 ∨ cn = 5 := by omega
          have fdep : (Its.ofL es).dep ≤ d := Its.dep_of es d fun e h => (he3 e h).2
          have ffin : (Its.ofL es).fin := Its.fin_of es fun e h => (he3 e h).1
          have fcnt : (Its.ofL es).cnt = cntL es := by rw [Its.cnt_eq, Its.to_of]
          have fpy : (Its.ofL es).pys = es.map Ex.py := by rw [Its.pys_eq, Its.to_of]
          have flen : (Its.ofL es).toL.length ≤ 100 := by rw [Its.to_of]; omega
          rcases hk with rfl | rfl | rfl
          · simp -implicitDefEqProofs only [DL.wpW, reduceIte, Nat.reduceAdd, Nat.reduceLeDiff, DL.sFor_ap, TS_last, List.length_map, hes2, decide_false, gt, e33, e44, e55]
            exact ⟨b3, .ch (Its.ofL es), v3, _, hb3, by rw [Ex.fin]; exact ⟨flen, ffin⟩, by rw [Ex.dep]; omega, by rw [Ex.cnt]; omega, by rw [Ex.py, fpy], by trivial⟩
          · simp -implicitDefEqProofs only [DL.wpW, reduceIte, Nat.reduceAdd, Nat.reduceLeDiff, DL.sFor_ap, TS_last, List.length_map, hes2, decide_false, gt, e33, e44, e55]
            exact ⟨b3, .sq (Its.ofL es), v3, _, hb3, by rw [Ex.fin]; exact ⟨flen, ffin⟩, by rw [Ex.dep]; omega, by rw [Ex.cnt]; omega, by rw [Ex.py, fpy], by trivial⟩
          · simp -implicitDefEqProofs only [DL.wpW, reduceIte, Nat.reduceAdd, Nat.reduceLeDiff, DL.sFor_ap, TS_last, List.length_map, hes2, decide_false, gt, e33, e44, e55]
            exact ⟨b3, .sq (Its.ofL es), v3, _, hb3, by rw [Ex.fin]; exact ⟨flen, ffin⟩, by rw [Ex.dep]; omega, by rw [Ex.cnt]; omega, by rw [Ex.py, fpy], by trivial⟩
      · simp -implicitDefEqProofs only [DL.wpW, reduceIte, Nat.reduceAdd, Nat.reduceLeDiff, DL.sFor_ap, hk6, decide_false]
        exact ⟨by omega, by trivial⟩
    rintro ρ S1 ⟨hk6, rfl, rfl⟩
    simp -implicitDefEqProofs only [DL.wpW, reduceIte, Nat.reduceAdd, Nat.reduceLeDiff, DL.sFor_ap]
    refine draw_wp (TS_n0 hl hnq) hb1 (by decide) (TS_cl0 hc hb1) fun w b2 h0 h1' hb2 => ?_
    rw [TS_sn0 hl hnq]
    have hw : w = 0 ∨ w = 1 ∨ w = 2 := by omega
    rcases hw with rfl | rfl | rfl
    · simp -implicitDefEqProofs only [DL.wpW, reduceIte, Nat.reduceAdd, Nat.reduceLeDiff, DL.sFor_ap, ed2]
      refine ih (TS_n0 hl hnq) (TS_q0 hql) hp.set_n.set_q hb2 (TS_cl0 hc hb2) hv hv2 fun b3 e v3 hb3 hf hdp hcn => ?_
      simp -implicitDefEqProofs only [DL.wpW, reduceIte, Nat.reduceAdd, Nat.reduceLeDiff, DL.sFor_ap]
      exact ⟨b3, .an e, v3, [], hb3, by simpa [Ex.fin] using hf, by simp only [Ex.dep]; omega, by simp only [Ex.cnt]; omega, by trivial, by simpa using TS_TS (T := []) hl hql hnq⟩
    · simp -implicitDefEqProofs only [DL.wpW, reduceIte, Nat.reduceAdd, Nat.reduceLeDiff, DL.sFor_ap, ed2]
      refine ih (TS_n0 hl hnq) (TS_q0 hql) hp.set_n.set_q hb2 (TS_cl0 hc hb2) hv hv2 fun b3 e v3 hb3 hf hdp hcn => ?_
      simp -implicitDefEqProofs only [DL.wpW, reduceIte, Nat.reduceAdd, Nat.reduceLeDiff, DL.sFor_ap]
      exact ⟨b3, .so e, v3, [], hb3, by simpa [Ex.fin] using hf, by simp only [Ex.dep]; omega, by simp only [Ex.cnt]; omega, by trivial, by simpa using TS_TS (T := []) hl hql hnq⟩
    · simp -implicitDefEqProofs only [DL.wpW, reduceIte, Nat.reduceAdd, Nat.reduceLeDiff, DL.sFor_ap, ed2]
      refine ih (TS_n0 hl hnq) (TS_q0 hql) hp.set_n.set_q hb2 (TS_cl0 hc hb2) hv hv2 fun b3 e v3 hb3 hf hdp hcn => ?_
      simp -implicitDefEqProofs only [DL.wpW, reduceIte, Nat.reduceAdd, Nat.reduceLeDiff, DL.sFor_ap]
      exact ⟨b3, .mb e, v3, [], hb3, by simpa [Ex.fin] using hf, by simp only [Ex.dep]; omega, by simp only [Ex.cnt]; omega, by trivial, by simpa using TS_TS (T := []) hl hql hnq⟩
end
end My

namespace My
open PySem PySem.Spec PyProof.Rows L2 DL
abbrev abS : Str := Str.ofString "abcdefghijklmnopqrstuvwxyz"
theorem abL : abS.length = 26 := by decide +kernel
theorem abT : abS.cps.toList.length = 26 := by decide +kernel
theorem ab_at (v : Nat) : ∃ c, abS.cps.toList[v % 26]? = some c := ⟨_, List.getElem?_eq_getElem (by rw [abT]; omega)⟩
/-- the store while parts are drawn: the box, the parts, what is left of counts -/
abbrev GS (S : Sto) (n : Nat) (b : O) (Ps : List Pt) (T : Sto) : Sto := S.set n b ++ pyL Ps :: T
section
variable {S T : Sto} {n m q : Nat} {b b' : O} {v v' : Nat} {Q : D → Sto → Prop} {E : Xc → Sto → Prop} {pd : D} {Ps Ps' : List Pt}
theorem GS_n (hl : n < S.length) : (GS S n b Ps T)[n]? = some b := get_set hl
theorem GS_sn (hl : n < S.length) : (GS S n b Ps T).set n b' = GS S n b' Ps T := set_app hl
theorem GS_p : (GS S n b Ps T)[S.length]? = some (pyL Ps) := by
  rw [List.getElem?_append_right (by simp)]; simp
theorem GS_sp {o : O} : (GS S n b Ps T).set S.length o = S.set n b ++ o :: T := by
  rw [List.set_append_right _ _ (by simp)]; simp
theorem GS_cl (hc : ClS 0 S) (hb : IsBox b) (hT : ClS 0 T) : ClS 0 (GS S n b Ps T) := clS_app (clS_set hc hb.cl) (clS_cons pyL_cl hT)
theorem GS_len : (GS S n b Ps T).length = S.length + 1 + T.length := by simp; omega
theorem GS_app {x : O} : GS S n b Ps T ++ [x] = GS S n b Ps (T ++ [x]) := by simp
theorem GS_q {x : O} : (GS S n b Ps (T ++ [x]))[S.length + 1 + T.length]? = some x := by
  rw [← GS_app, List.getElem?_append_right (by rw [GS_len]; omega), GS_len]; simp
theorem GS_TS (hl : n < S.length) : TS (GS S n b Ps (T ++ [frL v])) n (S.length + 1 + T.length) b' v' = GS S n b' Ps (T ++ [frL v']) := by
  show ((GS S n b Ps (T ++ [frL v])).set n b').set _ _ = _
  rw [GS_sn hl, ← GS_app, List.set_append_right _ _ (by rw [GS_len]; omega), GS_len, ← GS_app]
  simp
theorem pyL_snoc {t : Pt} : O.lst ((Ps.map fun p => D.p p.py) ++ [D.p t.py]) = pyL (Ps ++ [t]) := by simp [pyL]
abbrev RG (n L s : Nat) (P : Nat) (le st : Nat) (v7 v8 v9 v10 : Option D) : DL.Env := [some (.ob n), some (.int (le : Nat)), some (.int (st : Nat)), some (.int (5 : Nat)), some (.str abS), some (.int (s : Nat)), some (.ob P), v7, v8, v9, v10]
theorem lst_cl {k : Nat} (l : List Pt) : ClO k (pyL l) := pyL_cl
theorem grammar_wp {le st : Nat} (hs : S[n]? = some b) (hb : IsBox b) (hc : ClS 0 S) (h1 : 1 ≤ le) (h3 : le ≤ 3) (h2 : st ≤ 2)
    (k : ∀ (b' : O) (Ps : List Pt), IsBox b' → (∀ p ∈ Ps, p.good) → 1 ≤ Ps.length → Ps.length ≤ 5 → Q (.p (.tuple (Ps.map Pt.py))) (S.set n b')) : WE (G_law_grammar [.ob n, .int (le : Nat), .int (st : Nat), .int (5 : Nat)] S) Q E := by
  have hl : n < S.length := (List.getElem?_eq_some_iff.mp hs).1
  have hne : n ≠ S.length := by omega
  refine WE_def (fun d S' => ∃ (b' : O) (Ps : List Pt) (T : Sto), IsBox b' ∧ (∀ p ∈ Ps, p.good) ∧ 1 ≤ Ps.length ∧ Ps.length ≤ 5 ∧ d = .p (.tuple (Ps.map Pt.py)) ∧ S' = S.set n b' ++ T) ?_ (fun d S' ⟨b', Ps, T, hb', hp, hl1, hl2, e1, e2⟩ => ⟨_, S.set n b', T, e1, e2, by simp, clS_set hc hb'.cl, k b' Ps hb' hp hl1 hl2⟩)
  rw [show start0 NN_law_grammar [.ob n, .int (le : Nat), .int (st : Nat), .int (5 : Nat)] = [some (.ob n), some (.int (le : Nat)), some (.int (st : Nat)), some (.int (5 : Nat)), none, none, none, none, none, none, none] from rfl]
  unfold B_law_grammar
  refine WS_cut (fun ρ S1 => S1 = S ∧ ρ = [some (.ob n), some (.int (le : Nat)), some (.int (st : Nat)), some (.int (5 : Nat)), some (.str abS), none, none, none, none, none, none]) ?_ ?_
  · simp -implicitDefEqProofs only [DL.wpW, reduceIte, Nat.reduceAdd, Nat.reduceLeDiff, DL.sFor_ap]
    all_goals exact ⟨by trivial, by trivial⟩
  rintro ρ S1 ⟨e1, rfl⟩
  rw [e1]
  clear e1 S1
  refine WS_cut (fun ρ S1 => ∃ b' s, IsBox b' ∧ S1 = S.set n b' ∧ ρ = [some (.ob n), some (.int (le : Nat)), some (.int (st : Nat)), some (.int (5 : Nat)), some (.str abS), some (.int (s : Nat)), none, none, none, none, none]) ?_ ?_
  · simp -implicitDefEqProofs only [DL.wpW, reduceIte, Nat.reduceAdd, Nat.reduceLeDiff, DL.sFor_ap]
    refine draw_wp hs hb (by decide) hc fun w b1 h0 h1' hb1 => ?_
    obtain ⟨w, rfl⟩ := Int.eq_ofNat_of_zero_le h0
    try simp -implicitDefEqProofs only [DL.wpW, reduceIte, Nat.reduceAdd, Nat.reduceLeDiff, DL.sFor_ap]
    exact ⟨b1, w, hb1, by trivial, by trivial⟩
  rintro ρ S1 ⟨b1, s, hb1, rfl, rfl⟩
  refine WS_cut (fun ρ S1 => S1 = GS S n b1 [] [] ∧ ρ = RG n 0 s S.length le st none none none none) ?_ ?_
  · simp -implicitDefEqProofs only [DL.wpW, reduceIte, Nat.reduceAdd, Nat.reduceLeDiff, DL.sFor_ap]
    exact ⟨rfl, by simp⟩
  rintro ρ S1 ⟨rfl, rfl⟩
  have l26 : (26 : Nat) ≤ sizeLine := by rw [sizeLine_eq]; decide
  have xL : (Str.ofString "x").length = 1 := by decide +kernel
  have yL : (Str.ofString "y").length = 1 := by decide +kernel
  have uL : (Str.ofString "_1").length = 2 := by decide +kernel
  refine WS_cut (fun ρ S1 => ∃ (b' : O) (Ps : List Pt) (v7 : Option D), IsBox b' ∧ (∀ p ∈ Ps, p.good) ∧ Ps.length = le ∧ S1 = GS S n b' Ps [] ∧ ρ = RG n 0 s S.length le st v7 none none none) ?_ ?_
  · have bl : big62 (le : Int) = true := big62_nat (by omega)
    simp -implicitDefEqProofs only [DL.wpW, reduceIte, Nat.reduceAdd, Nat.reduceLeDiff, DL.sFor_ap, bl, Int.toNat_natCast]
    refine WS_for (fun i ρ S1 => ∃ (b' : O) (Ps : List Pt) (v7 : Option D), IsBox b' ∧ (∀ p ∈ Ps, p.good) ∧ Ps.length = i ∧ S1 = GS S n b' Ps [] ∧ ρ = RG n 0 s S.length le st v7 none none none) _ 0 _ _
      ⟨b1, [], none, hb1, (fun _ z => by cases z), rfl, rfl, rfl⟩ ?_ ?_
    · rintro i d ρ S2 hd ⟨b2, Ps, v7, hb2, hok, hlen, rfl, rfl⟩
      obtain ⟨hi, rfl⟩ := rngL_get hd
      obtain ⟨c, ec⟩ := ab_at (s + 3 * i)
      have em : ((s : Int) + 3 * (i : Int)) % 26 = (((s + 3 * i) % 26 : Nat) : Int) := by omega
      have sl1 : 1 + 1 ≤ sizeLine := by rw [sizeLine_eq]; decide
      simp -implicitDefEqProofs only [DL.wpW, reduceIte, Nat.reduceAdd, Nat.reduceLeDiff, DL.sFor_ap, GS_p, Int.zero_add]
      rw [if_pos (.inl (by decide)), if_pos (by decide), em]
      simp -implicitDefEqProofs only [DL.wpW, reduceIte, Nat.reduceAdd, Nat.reduceLeDiff, DL.sFor_ap, gIx_str, abL, l26, ec]
      have c1 : (Str.mk #[c]).length = 1 := rfl
      rw [if_pos (by rw [xL, c1]; decide), if_pos (by rw [PySem.Str.length_append, xL, c1, uL]; decide)]
      refine leaf_wp (GS_n hl) hb2 (GS_cl hc hb2 clS_nil) fun b3 pt hb3 hpt => ?_
      rw [GS_sn hl]
      have hL : Ps.length < 16777216 := by omega
      simp -implicitDefEqProofs only [DL.wpW, reduceIte, Nat.reduceAdd, Nat.reduceLeDiff, DL.sFor_ap, GS_p, List.length_map, hL, pyL_snoc, GS_sp]
      refine ⟨by trivial, b3, Ps ++ [pt], some (.int (i : Nat)), hb3, fun p hp => ?_, by simp [hlen], by trivial, by trivial⟩
      rcases List.mem_append.mp hp with z | z
      · exact hok p z
      · rw [List.mem_singleton.mp z]; exact hpt
    · rintro ρ S2 ⟨b2, Ps, v7, hb2, hok, hlen, rfl, rfl⟩
      rw [rngL_length, Nat.zero_add] at hlen
      exact ⟨b2, Ps, v7, hb2, hok, hlen, rfl, rfl⟩
  rintro ρ S1 ⟨b2, Ps, v7, hb2, hok, hlen, rfl, rfl⟩
  refine WS_cut (fun ρ S1 => ∃ (b' : O) (Ps : List Pt) (T : Sto) (v7 v8 v9 v10 : Option D), IsBox b' ∧ (∀ p ∈ Ps, p.good) ∧ Ps.length = le + st ∧ ClS 0 T ∧ S1 = GS S n b' Ps T ∧ ρ = RG n 0 s S.length le st v7 v8 v9 v10) ?_ ?_
  · have bl : big62 (st : Int) = true := big62_nat (by omega)
    simp -implicitDefEqProofs only [DL.wpW, reduceIte, Nat.reduceAdd, Nat.reduceLeDiff, DL.sFor_ap, bl, Int.toNat_natCast]
    refine WS_for (fun i ρ S1 => ∃ (b' : O) (Ps : List Pt) (T : Sto) (v7 v8 v9 v10 : Option D), IsBox b' ∧ (∀ p ∈ Ps, p.good) ∧ Ps.length = le + i ∧ ClS 0 T ∧ S1 = GS S n b' Ps T ∧ ρ = RG n 0 s S.length le st v7 v8 v9 v10) _ 0 _ _
      ⟨b2, Ps, [], v7, none, none, none, hb2, hok, hlen, clS_nil, rfl, rfl⟩ ?_ ?_
    · rintro i d ρ S2 hd ⟨b3, Ps, T, v7, v8, v9, v10, hb3, hok, hlen, hT, rfl, rfl⟩
      obtain ⟨hi, rfl⟩ := rngL_get hd
      have hi : i < st := hi
      simp only [gNm_ap, WE_ok, List.set_cons_succ, List.set_cons_zero, Int.zero_add]
      refine WS_cut (fun ρ S1 => ∃ b' ac, IsBox b' ∧ S1 = GS S n b' Ps T ∧ ρ = RG n 0 s S.length le st (some (.int (i : Nat))) (some (.str (dirS ac))) v9 v10) ?_ ?_
      · simp -implicitDefEqProofs only [DL.wpW, reduceIte, Nat.reduceAdd, Nat.reduceLeDiff, DL.sFor_ap]
        refine draw_wp (GS_n hl) hb3 (by decide) (GS_cl hc hb3 hT) fun w b4 h0 h1 hb4 => ?_
        rw [GS_sn hl]
        have h2 : w = 0 ∨ w = 1 := by omega
        rcases h2 with rfl | rfl
        · simp -implicitDefEqProofs only [DL.wpW, reduceIte, Nat.reduceAdd, Nat.reduceLeDiff, DL.sFor_ap]
          exact ⟨b4, true, hb4, by trivial, by trivial⟩
        · simp -implicitDefEqProofs only [DL.wpW, reduceIte, Nat.reduceAdd, Nat.reduceLeDiff, DL.sFor_ap]
          exact ⟨b4, false, hb4, by trivial, by trivial⟩
      rintro ρ S3 ⟨b4, ac, hb4, rfl, rfl⟩
      refine WS_cut (fun ρ S1 => ∃ (b' : O) (jt : Str), IsBox b' ∧ S1 = GS S n b' Ps T ∧ ρ = RG n 0 s S.length le st (some (.int (i : Nat))) (some (.str (dirS ac))) (some (.str jt)) v10) ?_ ?_
      · simp -implicitDefEqProofs only [DL.wpW, reduceIte, Nat.reduceAdd, Nat.reduceLeDiff, DL.sFor_ap]
        refine label_wp (GS_n hl) hb4 (GS_cl hc hb4 hT) fun b5 lab hb5 => ?_
        rw [GS_sn hl]
        simp -implicitDefEqProofs only [DL.wpW, reduceIte, Nat.reduceAdd, Nat.reduceLeDiff, DL.sFor_ap]
        refine draw_wp (GS_n hl) hb5 (by decide) (GS_cl hc hb5 hT) fun w b6 h0 h1 hb6 => ?_
        rw [GS_sn hl]
        have h2 : w = 0 ∨ w = 1 ∨ w = 2 ∨ w = 3 := by omega
        rcases h2 with rfl | rfl | rfl | rfl
        · simp -implicitDefEqProofs only [DL.wpW, reduceIte, Nat.reduceAdd, Nat.reduceLeDiff, DL.sFor_ap]
          exact ⟨b6, _, hb6, by trivial, by trivial⟩
        · simp -implicitDefEqProofs only [DL.wpW, reduceIte, Nat.reduceAdd, Nat.reduceLeDiff, DL.sFor_ap]
          exact ⟨b6, _, hb6, by trivial, by trivial⟩
        · simp -implicitDefEqProofs only [DL.wpW, reduceIte, Nat.reduceAdd, Nat.reduceLeDiff, DL.sFor_ap]
          exact ⟨b6, _, hb6, by trivial, by trivial⟩
        · simp -implicitDefEqProofs only [DL.wpW, reduceIte, Nat.reduceAdd, Nat.reduceLeDiff, DL.sFor_ap]
          exact ⟨b6, _, hb6, by trivial, by trivial⟩
      rintro ρ S3 ⟨b5, jt, hb5, rfl, rfl⟩
      refine WS_cut (fun ρ S1 => ∃ (b' : O) (e : Ex) (T : Sto), IsBox b' ∧ e.fin ∧ e.cnt ≤ 8 ∧ e.dep < 6 ∧ ClS 0 T ∧ S1 = GS S n b' Ps T ∧ ρ = RG n 0 s S.length le st (some (.int (i : Nat))) (some (.str (dirS ac))) (some (.str jt)) (some (.p e.py))) ?_ ?_
      · simp -implicitDefEqProofs only [DL.wpW, reduceIte, Nat.reduceAdd, Nat.reduceLeDiff, DL.sFor_ap]
        rw [show GS S n b5 Ps T ++ [O.lst [D.int (5 : Nat)]] = GS S n b5 Ps (T ++ [frL 5]) by simp]
        rw [show List.length (GS S n b5 Ps T) = S.length + 1 + T.length from GS_len]
        refine choice_wp (n := n) (q := S.length + 1 + T.length) (Ps := Ps) (by omega) hok (by omega) (by omega) 3 6 (by decide) (by decide) (GS_n hl) GS_q (.o (by omega) (by omega) GS_p) hb5 (GS_cl hc hb5 (clS_app hT (clS_one frL_cl))) (by decide) (by decide) fun b6 e v' hb6 hf hdp hcn => ?_
        rw [GS_TS hl]
        try simp -implicitDefEqProofs only [DL.wpW, reduceIte, Nat.reduceAdd, Nat.reduceLeDiff, DL.sFor_ap]
        exact ⟨b6, e, _, hb6, hf, by omega, by omega, clS_app hT (clS_one frL_cl), by trivial, by trivial⟩
      rintro ρ S3 ⟨b6, e, T2, hb6, hf, hcn, hdp, hT2, rfl, rfl⟩
      obtain ⟨c, ec⟩ := ab_at (s + 3 * i)
      have em : ((s : Int) + 3 * (i : Int)) % 26 = (((s + 3 * i) % 26 : Nat) : Int) := by omega
      simp -implicitDefEqProofs only [DL.wpW, reduceIte, Nat.reduceAdd, Nat.reduceLeDiff, DL.sFor_ap, GS_p]
      rw [if_pos (.inl (by decide)), if_pos (by decide), em]
      simp -implicitDefEqProofs only [DL.wpW, reduceIte, Nat.reduceAdd, Nat.reduceLeDiff, DL.sFor_ap, gIx_str, abL, l26, ec]
      have c1 : (Str.mk #[c]).length = 1 := rfl
      rw [if_pos (by rw [yL, c1]; decide)]
      have hL : Ps.length < 16777216 := by omega
      have fin : O.lst ((Ps.map fun p => D.p p.py) ++ [D.p (.tuple [.str (dirS ac), .str (Str.ofString "y" ++ Str.mk #[c]), .str jt, e.py])]) = pyL (Ps ++ [.strip ac (Str.ofString "y" ++ Str.mk #[c]) jt e]) := pyL_snoc (t := .strip ac (Str.ofString "y" ++ Str.mk #[c]) jt e)
      simp -implicitDefEqProofs only [DL.wpW, reduceIte, Nat.reduceAdd, Nat.reduceLeDiff, DL.sFor_ap, GS_p, List.length_map, hL, fin, GS_sp]
      refine ⟨by trivial, b6, Ps ++ [.strip ac (Str.ofString "y" ++ Str.mk #[c]) jt e], T2, _, _, _, _, hb6, fun p hp => ?_, by simp [hlen]; omega, hT2, by trivial, by trivial⟩
      rcases List.mem_append.mp hp with z | z
      · exact hok p z
      · rw [List.mem_singleton.mp z]; exact ⟨hf, hcn, hdp⟩
    · rintro ρ S2 ⟨b3, Ps, T, v7, v8, v9, v10, hb3, hok, hlen, hT, rfl, rfl⟩
      rw [rngL_length, Nat.zero_add] at hlen
      exact ⟨b3, Ps, T, v7, v8, v9, v10, hb3, hok, hlen, hT, rfl, rfl⟩
  rintro ρ S1 ⟨b3, Ps, T, v7, v8, v9, v10, hb3, hok, hlen, hT, rfl, rfl⟩
  have gt : gToTup [.ob S.length] (GS S n b3 Ps T) = .ok (.p (.tuple (Ps.map Pt.py))) (GS S n b3 Ps T) := gToTup_d (by rw [GS_p]; simp [dL])
  simp -implicitDefEqProofs only [DL.wpW, reduceIte, Nat.reduceAdd, Nat.reduceLeDiff, DL.sFor_ap, gt]
  exact ⟨b3, Ps, _, hb3, hok, by omega, by omega, by trivial, by trivial⟩
end
end My

namespace My
open PySem PySem.Spec PyProof.Rows L2 DL
def Pt.isStrip : Pt → Bool
  | .strip _ _ _ _ => true
  | _ => false
abbrev Wy := Option (List Bool × List Mv)
def wayP : Wy → PyData
  | none => .tuple []
  | some (e, m) => machP e m
def wayOf : Pt → Wy
  | .strip _ _ _ e => some (machE e, machM e)
  | _ => none
theorem x1 : ([PyData.str "across", PyData.str "down"].any fun z => PyData.eqv z (.str "plain")) = false := by decide +kernel
theorem x2 : ([PyData.str "across", PyData.str "down"].any fun z => PyData.eqv z (.str "shape")) = false := by decide +kernel
theorem x3 (ac : Bool) : ([PyData.str "across", PyData.str "down"].any fun z => PyData.eqv z (.str (dirS ac))) = true := by cases ac <;> decide +kernel
theorem x4 : SeqAt.shaped (.str "plain") = true := by decide +kernel
theorem x5 : SeqAt.shaped (.str "shape") = true := by decide +kernel
theorem x6 (ac : Bool) : SeqAt.shaped (.str (dirS ac)) = true := by cases ac <;> decide +kernel
theorem x7 : SeqAt.shaped (.tuple [.str "across", .str "down"]) = true := by decide +kernel
theorem flat_le2 {α β : Type} {f : α → List β} {B : Nat} : ∀ l : List α, (∀ a ∈ l, (f a).length ≤ B) → (l.flatMap f).length ≤ l.length * B
  | [], _ => by simp
  | a :: l, h => by
    have h1 := h a List.mem_cons_self
    have h2 := flat_le2 l fun x hx => h x (List.mem_cons_of_mem _ hx)
    rw [List.flatMap_cons, List.length_append, List.length_cons, Nat.succ_mul]
    omega
theorem mM_len {e : Ex} (h : e.cnt ≤ 8) : (machM e).length ≤ 81 := by
  unfold machM mvsU
  have hR := rowsU_len (e := e) (e.cnt + 1)
  have := flat_le2 (B := 9) (List.range (rowsU e (e.cnt + 1)).length) (f := mvRow e (rowsU e (e.cnt + 1))) fun i hi => by
    unfold mvRow
    rw [List.length_map]
    have hi' := List.mem_range.mp hi
    rw [List.getD_eq_getElem?_getD, List.getElem?_eq_getElem hi', Option.getD_some]
    have := (row_b (List.getElem_mem hi')).1
    omega
  rw [List.length_range] at this
  have h9 : (rowsU e (e.cnt + 1)).length * 9 ≤ 9 * 9 := Nat.mul_le_mul_right _ (by omega)
  omega
section
variable {S : Sto} {Q : D → Sto → Prop} {E : Xc → Sto → Prop}
theorem isstrip_wp {pt : Pt} (hc : ClS 0 S) (q : Q (.bl pt.isStrip) S) : WE (G_is_strip [.p pt.py] S) Q E := by
  refine WE_gB ?_
  rw [show start0 NN_is_strip [.p pt.py] = [some (.p pt.py)] from rfl]
  unfold B_is_strip
  cases pt with
  | plain nm lab c k =>
    simp -implicitDefEqProofs only [DL.wpW, reduceIte, Nat.reduceAdd, Nat.reduceLeDiff, DL.sFor_ap, Pt.py, inw x4 x7, x1]
    exact WE_pick rfl hc q
  | shape nm lab c w h rows =>
    simp -implicitDefEqProofs only [DL.wpW, reduceIte, Nat.reduceAdd, Nat.reduceLeDiff, DL.sFor_ap, Pt.py, inw x5 x7, x2]
    exact WE_pick rfl hc q
  | strip ac nm j e =>
    simp -implicitDefEqProofs only [DL.wpW, reduceIte, Nat.reduceAdd, Nat.reduceLeDiff, DL.sFor_ap, Pt.py, inw (x6 ac) x7, x3]
    exact WE_pick rfl hc q
theorem machines_wp {Ps : List Pt} (hs : ∀ p ∈ Ps, Pt.good p) (hl : Ps.length < 1000) (hc : ClS 0 S) (q : Q (.p (.tuple ((Ps.map wayOf).map wayP))) S) : WE (G_machines [.p (.tuple (Ps.map Pt.py))] S) Q E := by
  refine WE_def (fun d S' => d = .p (.tuple ((Ps.map wayOf).map wayP)) ∧ S' = S) ?_ (fun d S' ⟨e1, e2⟩ => ⟨_, S, [], e1, by rw [e2, List.append_nil], rfl, hc, q⟩)
  rw [show start0 NN_machines [.p (.tuple (Ps.map Pt.py))] = [some (.p (.tuple (Ps.map Pt.py))), none] from rfl]
  unfold B_machines
  simp -implicitDefEqProofs only [DL.wpW, reduceIte, Nat.reduceAdd, Nat.reduceLeDiff, DL.sFor_ap]
  rw [show wipeE [some (D.p (.tuple (Ps.map Pt.py))), none] [1] = [some (D.p (.tuple (Ps.map Pt.py))), none] from rfl]
  refine WE_lc (fun i acc S' => S' = S ∧ acc = ((Ps.take i).map wayOf).map wayP) _ 0 _ _ ⟨rfl, by simp⟩ ?_ ?_
  · rintro i d acc S' hd ⟨rfl, rfl⟩
    rw [List.map_map, List.getElem?_map] at hd
    cases ep : Ps[i]? with
    | none => rw [ep] at hd; cases hd
    | some pt =>
      rw [ep] at hd
      cases hd
      have hi : i < Ps.length := (List.getElem?_eq_some_iff.mp ep).1
      have hsm := hs pt (List.mem_of_getElem? ep)
      have hL : (((Ps.take (0 + i)).map wayOf).map wayP).length < sizeLine := by rw [List.length_map, List.length_map, List.length_take, sizeLine_eq]; omega
      have fin : ((Ps.take (0 + i)).map wayOf).map wayP ++ [wayP (wayOf pt)] = ((Ps.take (0 + i + 1)).map wayOf).map wayP := by
        rw [Nat.zero_add, List.take_succ, ep]; simp
      simp -implicitDefEqProofs only [DL.wpW, reduceIte, Nat.reduceAdd, Nat.reduceLeDiff, DL.sFor_ap, Function.comp_apply]
      refine isstrip_wp hc ?_
      cases pt with
      | plain nm lab c k =>
        simp -implicitDefEqProofs only [DL.wpW, reduceIte, Nat.reduceAdd, Nat.reduceLeDiff, DL.sFor_ap, Pt.isStrip]
        exact ⟨_, _, rfl, hL, trivial, by trivial, fin⟩
      | shape nm lab c w h rows =>
        simp -implicitDefEqProofs only [DL.wpW, reduceIte, Nat.reduceAdd, Nat.reduceLeDiff, DL.sFor_ap, Pt.isStrip]
        exact ⟨_, _, rfl, hL, trivial, by trivial, fin⟩
      | strip ac nm j e =>
        have g3 : ∀ S : Sto, gIx (.p (Pt.strip ac nm j e).py) (.p (.int 3)) S = .ok (.p e.py) S := fun S => rfl
        simp -implicitDefEqProofs only [DL.wpW, reduceIte, Nat.reduceAdd, Nat.reduceLeDiff, DL.sFor_ap, Pt.isStrip, g3]
        refine pmachine_wp hsm.1 hsm.2.1 hsm.2.2 hc ?_
        simp -implicitDefEqProofs only [DL.wpW, reduceIte, Nat.reduceAdd, Nat.reduceLeDiff, DL.sFor_ap]
        exact ⟨_, _, rfl, hL, trivial, by trivial, fin⟩
  · rintro acc S' ⟨rfl, rfl⟩
    rw [List.length_map, List.length_map, Nat.zero_add, List.take_length]
    simp -implicitDefEqProofs only [DL.wpW, reduceIte, Nat.reduceAdd, Nat.reduceLeDiff, DL.sFor_ap, gToTup_l]
    all_goals exact ⟨by trivial, by trivial⟩
end
end My

namespace My
open PySem PySem.Spec PyProof.Rows L2 DL
/-! ### the same -/
@[simp] theorem kit1 : kitB "tuple" "tuple" = some true := by decide +kernel
@[simp] theorem kit2 : kitB "bool" "tuple" = some false := by decide +kernel
@[simp] theorem kit3 : kitB "int" "tuple" = some false := by decide +kernel
@[simp] theorem kit4 : kitB "str" "tuple" = some false := by decide +kernel
@[simp] theorem kit5 : kitB "bool" "bool" = some true := by decide +kernel
@[simp] theorem kit6 : kitB "int" "bool" = some false := by decide +kernel
@[simp] theorem kit7 : kitB "str" "bool" = some false := by decide +kernel
@[simp] theorem kit8 : kitB "int" "int" = some true := by decide +kernel
@[simp] theorem kit9 : kitB "str" "int" = some false := by decide +kernel
@[simp] theorem kit10 : kitB "str" "str" = some true := by decide +kernel
section
variable {S : Sto}
@[simp] theorem tyD_tup {l : List PyData} : tyD S (.p (.tuple l)) = some "tuple" := rfl
@[simp] theorem tyD_bl {l : Bool} : tyD S (.p (.bool l)) = some "bool" := rfl
@[simp] theorem tyD_int {l : Int} : tyD S (.p (.int l)) = some "int" := rfl
@[simp] theorem tyD_str {l : Str} : tyD S (.p (.str l)) = some "str" := rfl
theorem isint_ok {i : Int} (hc : ClS 0 S) : G_law_is_integer [.p (.int i)] S = .ok (.bl true) S := by
  refine gB_rt (T := []) ?_ rfl (clS_mono (Nat.zero_le _) hc)
  simp [B_law_is_integer, start0]
/-- what _law_same tells apart, to a depth -/
def kindOk : Nat → PyData → Prop
  | 0, _ => False
  | n + 1, .tuple l => l.length < 1000000 ∧ ∀ d ∈ l, kindOk n d
  | _ + 1, .bool _ => True
  | _ + 1, .int _ => True
  | _ + 1, .str _ => True
  | _, _ => False
theorem same_ok (hc : ClS 0 S) (n : Nat) : ∀ d : PyData, kindOk n d → G_law_same n [.p d, .p d] S = .ok (.bl true) S := by
  induction n with
  | zero => exact fun _ h => h.elim
  | succ n ih =>
    intro d h
    have hS := clS_mono (Nat.zero_le S.length) hc
    cases d with
    | none => exact h.elim
    | list _ => exact h.elim
    | dict _ => exact h.elim
    | bool b =>
      refine gB_rt (T := []) ?_ rfl hS
      simp [B_law_same, start0]
    | int b =>
      refine gB_rt (T := []) ?_ rfl hS
      simp [B_law_same, start0, isint_ok hc]
    | str b =>
      refine gB_rt (T := []) ?_ rfl hS
      simp [B_law_same, start0]
    | tuple l =>
      obtain ⟨hl, hk⟩ := h
      refine gB_rt (T := []) ?_ rfl hS
      obtain ⟨ρ', S', e, eS, v, rfl⟩ := forL_inv (g := gNm 2) (chk := fun _ => True) (body := sIf (bNot (bTru (eCall 2 (G_law_same n) (aCons (eBin gIx (eVar 0) (eVar 2)) (aCons (eBin gIx (eVar 1) (eVar 2)) (aNil)))))) (sRetR (eC (.bool false))) (sNil))
        (fun i ρ S' => S' = S ∧ ∃ v, ρ = [some (.p (.tuple l)), some (.p (.tuple l)), v]) (rngL 0 l.length) 0 [some (.p (.tuple l)), some (.p (.tuple l)), none] S
        (fun i d ρ S' hd hI => by
          obtain ⟨hi, rfl⟩ := rngL_get hd
          obtain ⟨eS, v, rfl⟩ := hI
          have e : l[i]? = some l[i] := List.getElem?_eq_getElem hi
          refine ⟨_, _, gNm_ap, [some (.p (.tuple l)), some (.p (.tuple l)), some (.int (0 + i))], S, .inl ?_, trivial, rfl, _, rfl⟩
          have := ih l[i] (hk _ (List.getElem_mem hi))
          rw [eS]
          simp [e, this])
        ⟨rfl, none, rfl⟩
      have hb : big62 (l.length : Int) = true := big62_nat (by omega)
      rw [eS] at e
      simp [B_law_same, start0, hb, e]
end
end My

namespace My
open PySem PySem.Spec PyProof.Rows L2 DL
theorem mE_len {e : Ex} (h : e.cnt ≤ 8) : (machE e).length ≤ 9 := by
  unfold machE
  rw [List.length_map]
  have := rowsU_len (e := e) (e.cnt + 1)
  omega
theorem kind_mv (n : Nat) (x : Mv) : kindOk (n + 2) x.py := by
  refine ⟨by simp, fun d hd => ?_⟩
  simp only [List.mem_cons, List.mem_nil_iff, or_false] at hd
  rcases hd with rfl | rfl | rfl | rfl | rfl | rfl <;> exact trivial
theorem kind_mach {e : Ex} (n : Nat) (h : e.cnt ≤ 8) : kindOk (n + 4) (machP (machE e) (machM e)) := by
  have hM := mM_len h
  have hE := mE_len h
  refine ⟨by simp, fun d hd => ?_⟩
  simp only [List.mem_cons, List.mem_nil_iff, or_false] at hd
  rcases hd with rfl | rfl
  · refine ⟨by rw [List.length_map]; omega, fun d hd => ?_⟩
    obtain ⟨b, _, rfl⟩ := List.mem_map.mp hd
    exact trivial
  · refine ⟨by rw [List.length_map]; omega, fun d hd => ?_⟩
    obtain ⟨x, _, rfl⟩ := List.mem_map.mp hd
    exact kind_mv _ x
theorem kind_way {pt : Pt} (n : Nat) (h : pt.good) : kindOk (n + 4) (wayP (wayOf pt)) := by
  cases pt with
  | plain _ _ _ _ => exact ⟨by simp, fun _ z => by cases z⟩
  | shape _ _ _ _ _ _ => exact ⟨by simp, fun _ z => by cases z⟩
  | strip ac nm j e => exact kind_mach n h.2.1
theorem kind_ways {Ps : List Pt} (n : Nat) (hl : Ps.length ≤ 5) (hg : ∀ p ∈ Ps, p.good) : kindOk (n + 5) (.tuple ((Ps.map wayOf).map wayP)) := by
  refine ⟨by rw [List.length_map, List.length_map]; omega, fun d hd => ?_⟩
  rw [List.map_map] at hd
  obtain ⟨p, hp, rfl⟩ := List.mem_map.mp hd
  exact kind_way n (hg p hp)
abbrev LV (ns : List Int) (v2 v3 v4 v5 v6 : Option D) : DL.Env := [some (.scr ns), some (.ob 0), v2, v3, v4, v5, v6]
theorem law_true (ns : List Int) (hl : ns.length ≤ 63) : ∃ S', G_law [.scr ns] [] = .ok (.bl true) S' := by
  refine WE_true ?_
  refine WE_def (fun d _ => d = .bl true) ?_ (fun d S' h => ⟨_, [], S', h, rfl, rfl, clS_nil, rfl⟩)
  rw [show start0 NN_law [.scr ns] = [some (.scr ns), none, none, none, none, none, none] from rfl]
  unfold B_law
  refine WS_cut (fun ρ S => ∃ b, IsBox b ∧ S = [b] ∧ ρ = LV ns none none none none none) ?_ ?_
  · simp -implicitDefEqProofs only [DL.wpW, reduceIte, Nat.reduceAdd, Nat.reduceLeDiff, DL.sFor_ap]
    refine digits_wp (lo := 0) (hi := 50) clS_nil (by decide) (by decide) fun dg => ?_
    simp -implicitDefEqProofs only [DL.wpW, reduceIte, Nat.reduceAdd, Nat.reduceLeDiff, DL.sFor_ap]
    exact ⟨_, ⟨dg, 0, rfl⟩, by trivial, by trivial⟩
  rintro ρ S ⟨b, hb, rfl, rfl⟩
  refine WS_cut (fun ρ S => ∃ (b : O) (Ps : List Pt), IsBox b ∧ (∀ p ∈ Ps, p.good) ∧ 1 ≤ Ps.length ∧ Ps.length ≤ 5 ∧ S = [b] ∧ ρ = LV ns (some (.p (.tuple (Ps.map Pt.py)))) none none none none) ?_ ?_
  · simp -implicitDefEqProofs only [DL.wpW, reduceIte, Nat.reduceAdd, Nat.reduceLeDiff, DL.sFor_ap]
    refine draw_wp (n := 0) (S := [b]) rfl hb (by decide) (clS_one hb.cl) fun v b1 h0 h1 hb1 => ?_
    obtain ⟨v, rfl⟩ := Int.eq_ofNat_of_zero_le h0
    simp -implicitDefEqProofs only [DL.wpW, reduceIte, Nat.reduceAdd, Nat.reduceLeDiff, DL.sFor_ap]
    rw [show (1 : Int) + (v : Int) = ((1 + v : Nat) : Int) by omega]
    try simp -implicitDefEqProofs only [DL.wpW, reduceIte, Nat.reduceAdd, Nat.reduceLeDiff, DL.sFor_ap]
    refine draw_wp (n := 0) (S := [b1]) rfl hb1 (by decide) (clS_one hb1.cl) fun w b2 h2 h3 hb2 => ?_
    obtain ⟨w, rfl⟩ := Int.eq_ofNat_of_zero_le h2
    simp -implicitDefEqProofs only [DL.wpW, reduceIte, Nat.reduceAdd, Nat.reduceLeDiff, DL.sFor_ap]
    rw [show (1 : Int) + (w : Int) = ((1 + w : Nat) : Int) by omega]
    try simp -implicitDefEqProofs only [DL.wpW, reduceIte, Nat.reduceAdd, Nat.reduceLeDiff, DL.sFor_ap]
    refine grammar_wp (n := 0) (S := [b2]) (le := 1 + v) (st := 1 + w) rfl hb2 (clS_one hb2.cl) (by omega) (by omega) (by omega) fun b3 Ps hb3 hok hl1 hl2 => ?_
    try simp -implicitDefEqProofs only [DL.wpW, reduceIte, Nat.reduceAdd, Nat.reduceLeDiff, DL.sFor_ap]
    exact ⟨b3, Ps, hb3, hok, hl1, hl2, by trivial, by trivial⟩
  rintro ρ S ⟨b, Ps, hb, hok, hl1, hl2, rfl, rfl⟩
  refine WS_cut (fun ρ S => ∃ e : Ex, ClS 0 S ∧ e.fin ∧ e.cnt ≤ 8 ∧ e.dep < 6 ∧ ρ = LV ns (some (.p (.tuple (Ps.map Pt.py)))) (some (.p e.py)) none none none) ?_ ?_
  · have fin : ∀ (b1 : O) (ac : Bool), IsBox b1 → WE (G_law_choice 6 [.ob 0, .p (.tuple (Ps.map Pt.py)), .str (dirS ac), .int (4 : Nat), .ob 1] [b1, frL 6]) (fun d S => ∃ e : Ex, ClS 0 S ∧ e.fin ∧ e.cnt ≤ 8 ∧ e.dep < 6 ∧ d = .p e.py) (fun _ _ => False) := fun b1 ac hb1 => by
      refine choice_wp (n := 0) (q := 1) (Ps := Ps) (by decide) hok hl1 (by omega) 4 6 (by decide) (by decide) (S := [b1, frL 6]) rfl rfl .t hb1 (clS_cons hb1.cl (clS_one frL_cl)) (by decide) (by decide) fun b2 e v' hb2 hf hdp hcn => ?_
      exact ⟨e, clS_cons hb2.cl (clS_one frL_cl), hf, by omega, by omega, rfl⟩
    simp -implicitDefEqProofs only [DL.wpW, reduceIte, Nat.reduceAdd, Nat.reduceLeDiff, DL.sFor_ap]
    refine draw_wp (n := 0) (S := [b]) rfl hb (by decide) (clS_one hb.cl) fun w b1 h0 h1 hb1 => ?_
    have h2 : w = 0 ∨ w = 1 := by omega
    rcases h2 with rfl | rfl
    · simp -implicitDefEqProofs only [DL.wpW, reduceIte, Nat.reduceAdd, Nat.reduceLeDiff, DL.sFor_ap]
      refine WE_mono (fin b1 true hb1) (fun d S ⟨e, hS, hf, hcn, hdp, ed⟩ => ?_) (fun _ _ z => z)
      subst ed
      try simp -implicitDefEqProofs only [DL.wpW, reduceIte, Nat.reduceAdd, Nat.reduceLeDiff, DL.sFor_ap]
      exact ⟨e, hS, hf, hcn, hdp, by trivial⟩
    · simp -implicitDefEqProofs only [DL.wpW, reduceIte, Nat.reduceAdd, Nat.reduceLeDiff, DL.sFor_ap]
      refine WE_mono (fin b1 false hb1) (fun d S ⟨e, hS, hf, hcn, hdp, ed⟩ => ?_) (fun _ _ z => z)
      subst ed
      try simp -implicitDefEqProofs only [DL.wpW, reduceIte, Nat.reduceAdd, Nat.reduceLeDiff, DL.sFor_ap]
      exact ⟨e, hS, hf, hcn, hdp, by trivial⟩
  rintro ρ S ⟨e, hc, hf, hcn, hdp, rfl⟩
  refine WS_cut (fun ρ S' => S' = S ∧ ρ = LV ns (some (.p (.tuple (Ps.map Pt.py)))) (some (.p e.py)) none none none) ?_ ?_
  · simp -implicitDefEqProofs only [DL.wpW, reduceIte, Nat.reduceAdd, Nat.reduceLeDiff, DL.sFor_ap]
    refine pmachine_wp hf hcn hdp hc ?_
    try simp -implicitDefEqProofs only [DL.wpW, reduceIte, Nat.reduceAdd, Nat.reduceLeDiff, DL.sFor_ap]
    refine machine_wp hf hcn hdp hc ?_
    simp -implicitDefEqProofs only [DL.wpW, reduceIte, Nat.reduceAdd, Nat.reduceLeDiff, DL.sFor_ap, same_ok hc 10 _ (kind_mach 6 hcn)]
    all_goals exact ⟨by trivial, by trivial⟩
  rintro ρ S' ⟨e1, rfl⟩
  rw [e1]
  clear e1 S'
  refine WS_cut (fun ρ S' => S' = S ∧ ρ = LV ns (some (.p (.tuple (Ps.map Pt.py)))) (some (.p e.py)) (some (.p (.tuple (([] : List Wy).map wayP)))) none none) ?_ ?_
  · simp -implicitDefEqProofs only [DL.wpW, reduceIte, Nat.reduceAdd, Nat.reduceLeDiff, DL.sFor_ap]
    exact ⟨by trivial, by trivial⟩
  rintro ρ S' ⟨e1, rfl⟩
  rw [e1]
  clear e1 S'
  refine WS_cut (fun ρ S' => S' = S ∧ ∃ v5 v6, ρ = LV ns (some (.p (.tuple (Ps.map Pt.py)))) (some (.p e.py)) (some (.p (.tuple ((Ps.map wayOf).map wayP)))) v5 v6) ?_ ?_
  · simp -implicitDefEqProofs only [DL.wpW, reduceIte, Nat.reduceAdd, Nat.reduceLeDiff, DL.sFor_ap]
    refine WS_for (fun i ρ S' => S' = S ∧ ∃ v5 v6, ρ = LV ns (some (.p (.tuple (Ps.map Pt.py)))) (some (.p e.py)) (some (.p (.tuple (((Ps.take i).map wayOf).map wayP)))) v5 v6) _ 0 _ _ ⟨rfl, none, none, rfl⟩ ?_ ?_
    · rintro i d ρ S' hd ⟨rfl, v5, v6, rfl⟩
      rw [List.map_map, List.getElem?_map] at hd
      cases ep : Ps[i]? with
      | none => rw [ep] at hd; cases hd
      | some pt =>
        rw [ep] at hd
        cases hd
        have hi : i < Ps.length := (List.getElem?_eq_some_iff.mp ep).1
        have hg := hok pt (List.mem_of_getElem? ep)
        have hL : (((Ps.take i).map wayOf).map wayP).length + 1 ≤ 1000 := by rw [List.length_map, List.length_map, List.length_take]; omega
        have fin : ((Ps.take i).map wayOf).map wayP ++ [wayP (wayOf pt)] = ((Ps.take (0 + i + 1)).map wayOf).map wayP := by
          rw [Nat.zero_add, List.take_succ, ep]; simp
        rw [Nat.zero_add]
        generalize hA : ((Ps.take i).map wayOf).map wayP = A at hL fin
        have sb : ∀ x : Bool, G_law_same 10 [.p (.bool x), .p (.bool x)] S' = .ok (.bl true) S' := fun x => same_ok hc 10 (.bool x) trivial
        simp only [gNm_ap, WE_ok, List.set_cons_succ, List.set_cons_zero, Function.comp_apply]
        refine WS_cut (fun ρ S1 => S1 = S' ∧ ρ = LV ns (some (.p (.tuple (Ps.map Pt.py)))) (some (.p e.py)) (some (.p (.tuple A))) (some (.p pt.py)) (some (.bl pt.isStrip))) ?_ ?_
        · cases pt with
          | plain nm lab c k =>
            simp -implicitDefEqProofs only [DL.wpW, reduceIte, Nat.reduceAdd, Nat.reduceLeDiff, DL.sFor_ap, Pt.py, inw x4 x7, x1]
            exact ⟨by trivial, by trivial⟩
          | shape nm lab c w h rows =>
            simp -implicitDefEqProofs only [DL.wpW, reduceIte, Nat.reduceAdd, Nat.reduceLeDiff, DL.sFor_ap, Pt.py, inw x5 x7, x2]
            exact ⟨by trivial, by trivial⟩
          | strip ac nm j e =>
            simp -implicitDefEqProofs only [DL.wpW, reduceIte, Nat.reduceAdd, Nat.reduceLeDiff, DL.sFor_ap, Pt.py, inw (x6 ac) x7, x3]
            exact ⟨by trivial, by trivial⟩
        rintro ρ S1 ⟨e1, rfl⟩
        rw [e1]
        clear e1 S1
        refine WS_cut (fun ρ S1 => S1 = S' ∧ ρ = LV ns (some (.p (.tuple (Ps.map Pt.py)))) (some (.p e.py)) (some (.p (.tuple A))) (some (.p pt.py)) (some (.bl pt.isStrip))) ?_ ?_
        · simp -implicitDefEqProofs only [DL.wpW, reduceIte, Nat.reduceAdd, Nat.reduceLeDiff, DL.sFor_ap]
          refine isstrip_wp hc ?_
          simp -implicitDefEqProofs only [DL.wpW, reduceIte, Nat.reduceAdd, Nat.reduceLeDiff, DL.sFor_ap, sb]
          all_goals exact ⟨by trivial, by trivial⟩
        rintro ρ S1 ⟨e1, rfl⟩
        rw [e1]
        clear e1 S1
        cases pt with
        | plain nm lab c k =>
          simp -implicitDefEqProofs only [DL.wpW, reduceIte, Nat.reduceAdd, Nat.reduceLeDiff, DL.sFor_ap, Pt.isStrip]
          rw [if_pos (by omega)]
          rw [Nat.zero_add] at fin
          exact ⟨trivial, trivial, _, _, by rw [← fin]; rfl⟩
        | shape nm lab c w h rows =>
          simp -implicitDefEqProofs only [DL.wpW, reduceIte, Nat.reduceAdd, Nat.reduceLeDiff, DL.sFor_ap, Pt.isStrip]
          rw [if_pos (by omega)]
          rw [Nat.zero_add] at fin
          exact ⟨trivial, trivial, _, _, by rw [← fin]; rfl⟩
        | strip ac nm j e2 =>
          have g3 : ∀ S : Sto, gIx (.p (Pt.strip ac nm j e2).py) (.p (.int 3)) S = .ok (.p e2.py) S := fun S => rfl
          simp -implicitDefEqProofs only [DL.wpW, reduceIte, Nat.reduceAdd, Nat.reduceLeDiff, DL.sFor_ap, Pt.isStrip, g3]
          refine machine_wp hg.1 hg.2.1 hg.2.2 hc ?_
          try simp -implicitDefEqProofs only [DL.wpW, reduceIte, Nat.reduceAdd, Nat.reduceLeDiff, DL.sFor_ap]
          rw [if_pos (by omega)]
          rw [Nat.zero_add] at fin
          exact ⟨trivial, trivial, _, _, by rw [← fin]; rfl⟩
    · rintro ρ S' ⟨rfl, v5, v6, rfl⟩
      rw [List.length_map, List.length_map, Nat.zero_add, List.take_length]
      exact ⟨rfl, v5, v6, rfl⟩
  rintro ρ S' ⟨e1, v5, v6, rfl⟩
  rw [e1]
  clear e1 S'
  simp -implicitDefEqProofs only [DL.wpW, reduceIte, Nat.reduceAdd, Nat.reduceLeDiff, DL.sFor_ap]
  refine machines_wp hok (by omega) hc ?_
  simp -implicitDefEqProofs only [DL.wpW, reduceIte, Nat.reduceAdd, Nat.reduceLeDiff, DL.sFor_ap, same_ok hc 10 _ (kind_ways 5 hl2 hok)]
  all_goals trivial
end My

open PySem PySem.W PySem.Calls PyProof.Rows
theorem PySem.Challenge.cw_surelyread_k09_machines_exact_holds : PySem.Challenge.rw_surelyread_k09_machines_exact.Holds := by
  w_on; o_law
  refine HandSHeadRun.head_any (r := PySem.W.OpenLaw.row PySem.Challenge.rw_surelyread_k09_machines_exact) (q := PySem.W.view (PySem.W.OpenLaw.row PySem.Challenge.rw_surelyread_k09_machines_exact).prog [28]) (H := My.hkD) (ob := DL.obM 4 My.faD My.fnsD My.moreD) (M := 6000) (loose := My.namesD) (d := HandSHeadRun.topDef (PySem.W.OpenLaw.row PySem.Challenge.rw_surelyread_k09_machines_exact).prog 28) (kwd := []) DL.obM_eq
    (by kernel_rfl) (fun s => by kernel_rfl) My.runD (by kernel_rfl) (by kernel_rfl) (by kernel_rfl) (by rfl) (by first | assumption | decide +kernel) (by decide +kernel) ⟨rfl, rfl, rfl, rfl, rfl, by decide +kernel⟩ ?hw ?hc
  case hw => w_witness2
  case hc =>
    refine L2.walk_ofE (l := PySem.Challenge.rw_surelyread_k09_machines_exact) (n := 63) (k := 21) (x := "script") (CX := L2.CX0) rfl (by rw [PySem.sizeLine_eq]; decide) (by kernel_rfl) ⟨rfl, by decide, by decide⟩ ?F (fun _ _ _ _ z => z)
    intro w mg fa h Y G hmg0
    obtain ⟨K, KX, c, cm⟩ := Y
    have hmg : mg ("law" : PySem.Str) = some (.ref fa) := by
      have e : (HandSHeadRun.topDef (PySem.W.OpenLaw.row PySem.Challenge.rw_surelyread_k09_machines_exact).prog 28).name = ("law" : PySem.Str) := by kernel_rfl
      rw [← e]
      exact hmg0
    obtain ⟨f, fd, e1, U, _⟩ := My.all_fns (P := (PySem.Challenge.rw_surelyread_k09_machines_exact).prog) (w := w) (base := h) KX G c cm
    have b := L2.FunD.bindsA (ps := ["script"]) U fun _ _ _ _ _ _ us hl => match us, hl with | [_], _ => rfl
    have fe : f = fa := by
      have z := e1.symm.trans hmg
      cases z
      rfl
    subst fe
    refine ⟨K, fd, DL.spOf K mg 1 (fun ds S => DL.noEx (My.G_law ds S)), KX, fun s v => b s [v] rfl, fun H a ns hl hO hS => ?_, fun base kb nb => ?_⟩
    · obtain ⟨S', e⟩ := My.law_true ns hl
      exact DL.law_sp hO hS e
    · obtain ⟨f2, fd2, e2, U2, F2⟩ := My.all_fns (P := (PySem.Challenge.rw_surelyread_k09_machines_exact).prog) (w := w) (base := base) KX G c cm
      have z := e2.symm.trans hmg
      cases z
      have zz : fd2 = fd := DL.funS_same U2 U
      subst zz
      exact F2
