import PyProof.Rows.All
import Wide.All
import OpenK.AllK
import Wide.FinOn
import HandS.ForMost
import HandS.ForExc
import HandS.Strs
import HandS.Deep
import HandS.TupAny
import HandS.TupLe
import HandS.IsInst
import HandS.Conv
import HandS.Wide
import HandS.ExcOwn
import HandS.StrMore
import HandS.ExcCtx
import HandS.HotCalls
import HandS.ExcIs
import HandS.NestedHot
import KE.KExcIs
import HandS.ExcField
import HandS.Defaults
import HandS.Head0
import HandS.Head1
import HandS.Head2
import HandS.HeadEnd
import HandS.HeadHook1
import HandS.HeadHook2
import HandS.ExcInit
import HandS.FStr
import HandS.SortInts
import KE.LtData
import HandS.SetBool
import HandS.Set
import PyProof.Rows.StrMul
import HandS.More
import KE.KDictWalk
import KE.KDictList
import HandS.SortRule
import PySem.Challenge.RW_surelyread_k16_spots_reach
import HandS.Codes
set_option Elab.async false
set_option linter.all false
set_option maxRecDepth 100000
set_option maxHeartbeats 4000000
/-! DL: a reading of the hand layer by plain data: what a term computes is a total function over data and a store of the lists that still change. -/
namespace DL
open PySem PySem.Spec PyProof.Rows L2
abbrev St := L2.St

/-- the written part, and the addresses of things that are being made (no data speaks of them) -/
structure Kh where
  K : PySem.W.Frag
  h : Addr → Prop
  g : Str → Option Value
/-! ### data, store -/
inductive D where
  | p (d : PyData)
  | ob (n : Nat)
  | scr (ns : List Int)
  | xc (a : Addr) (dd : Option Addr) (fs : List (Str × PyData))
/-- the value of a bare thing -/
def sV : PyData → V
  | .bool b => .bl b
  | .int i => .int i
  | .str x => .str x
  | _ => .non
def sVs (fs : List (Str × PyData)) : List (Str × V) := fs.map fun p => (p.1, sV p.2)
abbrev D.int (i : Int) : D := .p (.int i)
abbrev D.bl (b : Bool) : D := .p (.bool b)
abbrev D.str (s : Str) : D := .p (.str s)
abbrev D.non : D := .p .none
abbrev D.tup (l : List PyData) : D := .p (.tuple l)
abbrev D.lst (l : List PyData) : D := .p (.list l)
inductive O where
  | lst (l : List D)
  | fz (l : List PyData)
  | dic (kvs : List (List Key × D))
  /-- a dict with ints and texts for keys -/
  | dik (kvs : List (Key × D))
  /-- an instance of the class of this name -/
  | ins (c : Str) (fs : List (Str × D))
abbrev Sto := List O
abbrev Env := List (Option D)
def O.live : O → Bool
  | .lst _ => true
  | .dic _ => true
  | .dik _ => true
  | .ins _ _ => true
  | _ => false
/-- the addresses of what still changes -/
def lv (K : Kh) (m : List Addr) (S : Sto) (a : Addr) : Prop := K.h a ∨ ∃ (n : Nat) (o : O), m[n]? = some a ∧ S[n]? = some o ∧ O.live o = true

mutual
def RP (K : Kh) (H : Hp) (L : Addr → Prop) : PyData → V → Prop
  | .none, v => v = .non
  | .bool b, v => v = .bl b
  | .int i, v => v = .int i
  | .str x, v => v = .str x
  | .list l, v => ∃ a vs, v = .ref a ∧ H a = some (.lst vs) ∧ ¬ L a ∧ RPs K H L l vs
  | .tuple l, v => ∃ a vs, v = .ref a ∧ H a = some (.tup vs) ∧ RPs K H L l vs
  | .dict _, _ => False
def RPs (K : Kh) (H : Hp) (L : Addr → Prop) : List PyData → List V → Prop
  | [], vs => vs = []
  | d :: l, vs => ∃ v r, vs = v :: r ∧ RP K H L d v ∧ RPs K H L l r
end
def RD (K : Kh) (m : List Addr) (S : Sto) (H : Hp) : D → V → Prop
  | .p d, v => RP K H (lv K m S) d v
  | .ob n, v => ∃ a, m[n]? = some a ∧ v = .ref a
  | .scr ns, v => ∃ a, v = .ref a ∧ ((∃ o, H a = some (.frz o (.lst (ns.map V.int)))) ∨ SqL K.K (fun _ => none) a (ns.map V.int))
  | .xc a dd fs, v => v = .ref a ∧ ∀ d, dd = some d → H d = some (.xd (sVs fs))
abbrev RDs (K : Kh) (m : List Addr) (S : Sto) (H : Hp) : List D → List V → Prop := Paired (RD K m S H)
abbrev RKV (K : Kh) (m : List Addr) (S : Sto) (H : Hp) : List (List Key × D) → List (List Key × V) → Prop := Paired fun p q => p.1 = q.1 ∧ RD K m S H p.2 q.2
abbrev RKK (K : Kh) (m : List Addr) (S : Sto) (H : Hp) : List (Key × D) → List (Key × V) → Prop := Paired fun p q => p.1 = q.1 ∧ RD K m S H p.2 q.2
abbrev RFS (K : Kh) (m : List Addr) (S : Sto) (H : Hp) : List (Str × D) → List (Str × V) → Prop := Paired fun p q => p.1 = q.1 ∧ RD K m S H p.2 q.2
def RO (K : Kh) (m : List Addr) (S : Sto) (H : Hp) (a : Addr) : O → Prop
  | .lst l => ∃ vs, H a = some (.lst vs) ∧ RDs K m S H l vs
  | .fz l => ∃ vs, H a = some (.lst vs) ∧ RPs K H (lv K m S) l vs
  | .dic kvs => ∃ ws, H a = some (.dT ws) ∧ RKV K m S H kvs ws
  | .dik kvs => ∃ ws, H a = some (.dK ws) ∧ RKK K m S H kvs ws
  | .ins c fs => ∃ C dx ws, K.g c = some (.ref C) ∧ H a = some (.ins C dx ws) ∧ H dx = some (.own a) ∧ RFS K m S H fs ws
/-- what may change -/
def Mb : HO → Prop
  | .tup _ => False
  | .frz _ _ => False
  | .xd _ => False
  | .own _ => False
  | _ => True
structure Rl (K : Kh) (m : List Addr) (S : Sto) (H : Hp) : Prop where
  len : m.length = S.length
  nd : m.Nodup
  hid : ∀ a, K.h a → a ∉ m ∧ ∃ u, H a = some u ∧ Mb u
  obj : ∀ (n : Nat) (a : Addr) (o : O), m[n]? = some a → S[n]? = some o → RO K m S H a o
abbrev RE (K : Kh) (m : List Addr) (S : Sto) (H : Hp) : Env → St → Prop := Paired fun od ov => ∀ d, od = some d → ∃ v, ov = some v ∧ RD K m S H d v
/-- what stays -/
structure Nx (K : Kh) (m : List Addr) (S : Sto) (H : Hp) (m' : List Addr) (S' : Sto) (H' : Hp) : Prop where
  tup : ∀ a vs, H a = some (.tup vs) → H' a = some (.tup vs)
  lst : ∀ a vs, H a = some (.lst vs) → ¬ lv K m S a → H' a = some (.lst vs) ∧ ¬ lv K m' S' a
  ext : ∃ t, m' = m ++ t
  frz : ∀ a o u, H a = some (.frz o u) → H' a = some (.frz o u)
  xd : ∀ a fs, H a = some (.xd fs) → H' a = some (.xd fs)
  hid : ∀ a, K.h a → H' a = H a
  own : ∀ a x, H a = some (.own x) → H' a = some (.own x)

section
variable {K : Kh} {m m' m1 m2 : List Addr} {S S' S1 S2 : Sto} {H H' H1 H2 : Hp} {L L' : Addr → Prop}
theorem Nx.refl : Nx K m S H m S H := ⟨fun _ _ h => h, fun _ _ h n => ⟨h, n⟩, ⟨[], by simp⟩, fun _ _ _ h => h, fun _ _ h => h, fun _ _ => rfl, fun _ _ h => h⟩
theorem Nx.trans (a : Nx K m S H m1 S1 H1) (b : Nx K m1 S1 H1 m2 S2 H2) : Nx K m S H m2 S2 H2 :=
  ⟨fun x vs h => b.tup x vs (a.tup x vs h), fun x vs h n => let ⟨h1, n1⟩ := a.lst x vs h n; b.lst x vs h1 n1, by
    obtain ⟨t1, rfl⟩ := a.ext
    obtain ⟨t2, rfl⟩ := b.ext
    exact ⟨t1 ++ t2, by simp⟩, fun x o u h => b.frz x o u (a.frz x o u h), fun x u h => b.xd x u (a.xd x u h), fun x h => (b.hid x h).trans (a.hid x h), fun x u h => b.own x u (a.own x u h)⟩
mutual
theorem RP.mono (ht : ∀ a vs, H a = some (.tup vs) → H' a = some (.tup vs)) (hl : ∀ a vs, H a = some (.lst vs) → ¬ L a → H' a = some (.lst vs) ∧ ¬ L' a) : ∀ (d : PyData) (v : V), RP K H L d v → RP K H' L' d v
  | .none, v, h => by simpa [RP] using h
  | .bool b, v, h => by simpa [RP] using h
  | .int i, v, h => by simpa [RP] using h
  | .str x, v, h => by simpa [RP] using h
  | .list l, v, h => by
    rw [RP] at h ⊢
    obtain ⟨a, vs, e, h1, h2, h3⟩ := h
    obtain ⟨g1, g2⟩ := hl a vs h1 h2
    exact ⟨a, vs, e, g1, g2, RPs.mono ht hl l vs h3⟩
  | .tuple l, v, h => by
    rw [RP] at h ⊢
    obtain ⟨a, vs, e, h1, h3⟩ := h
    exact ⟨a, vs, e, ht a vs h1, RPs.mono ht hl l vs h3⟩
  | .dict _, v, h => by rw [RP] at h; exact h.elim
theorem RPs.mono (ht : ∀ a vs, H a = some (.tup vs) → H' a = some (.tup vs)) (hl : ∀ a vs, H a = some (.lst vs) → ¬ L a → H' a = some (.lst vs) ∧ ¬ L' a) : ∀ (l : List PyData) (vs : List V), RPs K H L l vs → RPs K H' L' l vs
  | [], vs, h => by simpa [RPs] using h
  | d :: l, vs, h => by
    rw [RPs] at h ⊢
    obtain ⟨v, r, e, h1, h2⟩ := h
    exact ⟨v, r, e, RP.mono ht hl d v h1, RPs.mono ht hl l r h2⟩
end
theorem RP.nx (n : Nx K m S H m' S' H') {d : PyData} {v : V} (h : RP K H (lv K m S) d v) : RP K H' (lv K m' S') d v := RP.mono n.tup n.lst d v h
theorem RPs.nx (n : Nx K m S H m' S' H') {d : List PyData} {v : List V} (h : RPs K H (lv K m S) d v) : RPs K H' (lv K m' S') d v := RPs.mono n.tup n.lst d v h
theorem RD.nx (n : Nx K m S H m' S' H') {d : D} {v : V} (h : RD K m S H d v) : RD K m' S' H' d v := by
  cases d with
  | p d => exact RP.nx n h
  | ob k =>
    obtain ⟨a, e, rfl⟩ := h
    obtain ⟨t, rfl⟩ := n.ext
    refine ⟨a, ?_, rfl⟩
    rw [List.getElem?_append_left (List.getElem?_eq_some_iff.mp e).1]
    exact e
  | scr ns =>
    obtain ⟨a, rfl, h | h⟩ := h
    · obtain ⟨o, h⟩ := h
      exact ⟨a, rfl, .inl ⟨o, n.frz _ _ _ h⟩⟩
    · exact ⟨a, rfl, .inr h⟩
  | xc a dd fs => exact ⟨h.1, fun d e => n.xd _ _ (h.2 d e)⟩
theorem pairMono {α β : Type} {F G : α → β → Prop} (h : ∀ a b, F a b → G a b) {l : List α} {r : List β} (q : Paired F l r) : Paired G l r := by
  induction q with
  | nil => exact .nil
  | cons a _ ih => exact .cons (h _ _ a) ih
theorem RDs.nx (n : Nx K m S H m' S' H') {d : List D} {v : List V} (h : RDs K m S H d v) : RDs K m' S' H' d v := pairMono (fun _ _ => RD.nx n) h
theorem RKV.nx (n : Nx K m S H m' S' H') {d : List (List Key × D)} {v} (h : RKV K m S H d v) : RKV K m' S' H' d v := pairMono (fun _ _ q => ⟨q.1, RD.nx n q.2⟩) h
theorem RKK.nx (n : Nx K m S H m' S' H') {d : List (Key × D)} {v} (h : RKK K m S H d v) : RKK K m' S' H' d v := pairMono (fun _ _ q => ⟨q.1, RD.nx n q.2⟩) h
theorem RFS.nx (n : Nx K m S H m' S' H') {d : List (Str × D)} {v} (h : RFS K m S H d v) : RFS K m' S' H' d v := pairMono (fun _ _ q => ⟨q.1, RD.nx n q.2⟩) h
theorem RE.nx (n : Nx K m S H m' S' H') {ρ : Env} {σ : St} (h : RE K m S H ρ σ) : RE K m' S' H' ρ σ :=
  pairMono (fun _ _ q d e => let ⟨v, a, b⟩ := q d e; ⟨v, a, RD.nx n b⟩) h
theorem RPs_iff {l : List PyData} {vs : List V} : RPs K H L l vs ↔ Paired (RP K H L) l vs := by
  induction l generalizing vs with
  | nil =>
    rw [RPs]
    constructor
    · rintro rfl; exact .nil
    · intro h; cases h; rfl
  | cons d l ih =>
    rw [RPs]
    constructor
    · rintro ⟨v, r, rfl, h1, h2⟩
      exact .cons h1 (ih.mp h2)
    · intro h
      cases h with
      | cons h1 h2 => exact ⟨_, _, rfl, h1, ih.mpr h2⟩
theorem RDs_p {l : List PyData} {vs : List V} : RDs K m S H (l.map .p) vs ↔ RPs K H (lv K m S) l vs := by
  rw [RPs_iff]
  induction l generalizing vs with
  | nil =>
    constructor
    · intro h; cases h; exact .nil
    · intro h; cases h; exact .nil
  | cons d l ih =>
    rw [List.map_cons]
    constructor
    · intro h
      cases h with
      | cons h1 h2 => exact .cons h1 (ih.mp h2)
    · intro h
      cases h with
      | cons h1 h2 => exact .cons h1 (ih.mpr h2)
theorem pairLen {α β : Type} {F : α → β → Prop} {l : List α} {r : List β} (q : Paired F l r) : l.length = r.length := by
  induction q with
  | nil => rfl
  | cons a _ ih => simp [ih]
theorem pairGet {α β : Type} {F : α → β → Prop} {l : List α} {r : List β} (q : Paired F l r) {i : Nat} {a : α} (e : l[i]? = some a) : ∃ b, r[i]? = some b ∧ F a b := by
  induction q generalizing i with
  | nil => simp at e
  | cons h _ ih =>
    cases i with
    | zero =>
      simp at e
      subst e
      exact ⟨_, rfl, h⟩
    | succ i => exact ih (by simpa using e)
theorem pairGetR {α β : Type} {F : α → β → Prop} {l : List α} {r : List β} (q : Paired F l r) {i : Nat} {b : β} (e : r[i]? = some b) : ∃ a, l[i]? = some a ∧ F a b := by
  induction q generalizing i with
  | nil => simp at e
  | cons h _ ih =>
    cases i with
    | zero =>
      simp at e
      subst e
      exact ⟨_, rfl, h⟩
    | succ i => exact ih (by simpa using e)
theorem pairSet {α β : Type} {F : α → β → Prop} {l : List α} {r : List β} (q : Paired F l r) {i : Nat} {a : α} {b : β} (h : F a b) : Paired F (l.set i a) (r.set i b) := by
  induction q generalizing i with
  | nil => exact .nil
  | cons x t ih =>
    cases i with
    | zero => exact .cons h t
    | succ i => exact .cons x ih
theorem pairApp {α β : Type} {F : α → β → Prop} {l l' : List α} {r r' : List β} (q : Paired F l r) (q' : Paired F l' r') : Paired F (l ++ l') (r ++ r') := by
  induction q with
  | nil => exact q'
  | cons x t ih => exact .cons x ih
theorem pairTake {α β : Type} {F : α → β → Prop} {l : List α} {r : List β} (q : Paired F l r) (n : Nat) : Paired F (l.take n) (r.take n) := by
  induction q generalizing n with
  | nil => simp; exact .nil
  | cons x t ih =>
    cases n with
    | zero => exact .nil
    | succ n => exact .cons x (ih n)
theorem pairDrop {α β : Type} {F : α → β → Prop} {l : List α} {r : List β} (q : Paired F l r) (n : Nat) : Paired F (l.drop n) (r.drop n) := by
  induction q generalizing n with
  | nil => simp; exact .nil
  | cons x t ih =>
    cases n with
    | zero => exact .cons x t
    | succ n => exact ih n
theorem pairRev {α β : Type} {F : α → β → Prop} {l : List α} {r : List β} (q : Paired F l r) : Paired F l.reverse r.reverse := by
  induction q with
  | nil => exact .nil
  | cons x t ih =>
    rw [List.reverse_cons, List.reverse_cons]
    exact pairApp ih (.cons x .nil)
mutual
theorem RP.kk {K K' : Kh} (e : K.K = K'.K) : ∀ (d : PyData) (v : V), RP K H L d v → RP K' H L d v
  | .none, v, h => by simpa [RP] using h
  | .bool b, v, h => by simpa [RP] using h
  | .int i, v, h => by simpa [RP] using h
  | .str x, v, h => by simpa [RP] using h
  | .list l, v, h => by
    rw [RP] at h ⊢
    obtain ⟨a, vs, e1, h1, h2, h3⟩ := h
    exact ⟨a, vs, e1, h1, h2, RPs.kk e l vs h3⟩
  | .tuple l, v, h => by
    rw [RP] at h ⊢
    obtain ⟨a, vs, e1, h1, h3⟩ := h
    exact ⟨a, vs, e1, h1, RPs.kk e l vs h3⟩
  | .dict _, v, h => by rw [RP] at h; exact h.elim
theorem RPs.kk {K K' : Kh} (e : K.K = K'.K) : ∀ (l : List PyData) (vs : List V), RPs K H L l vs → RPs K' H L l vs
  | [], vs, h => by simpa [RPs] using h
  | d :: l, vs, h => by
    rw [RPs] at h ⊢
    obtain ⟨v, r, e1, h1, h2⟩ := h
    exact ⟨v, r, e1, RP.kk e d v h1, RPs.kk e l r h2⟩
end
mutual
theorem RP.dp : ∀ (d : PyData) (v : V), RP K H L d v → Dp K.K H v d
  | .none, v, h => by rw [RP] at h; subst h; exact .non
  | .bool b, v, h => by rw [RP] at h; subst h; exact .bl b
  | .int i, v, h => by rw [RP] at h; subst h; exact .int i
  | .str x, v, h => by rw [RP] at h; subst h; exact .str x
  | .list l, v, h => by
    rw [RP] at h
    obtain ⟨a, vs, rfl, h1, h2, h3⟩ := h
    exact .lst (.of h1) (RPs.dp l vs h3)
  | .tuple l, v, h => by
    rw [RP] at h
    obtain ⟨a, vs, rfl, h1, h3⟩ := h
    exact .tup (.of h1) (RPs.dp l vs h3)
  | .dict _, v, h => by rw [RP] at h; exact h.elim
theorem RPs.dp : ∀ (l : List PyData) (vs : List V), RPs K H L l vs → DpAll K.K H vs l
  | [], vs, h => by rw [RPs] at h; subst h; exact .nil
  | d :: l, vs, h => by
    rw [RPs] at h
    obtain ⟨v, r, rfl, h1, h2⟩ := h
    exact .cons (RP.dp d v h1) (RPs.dp l r h2)
end

/-! ### steps of the heap -/
theorem lvAddr (r : Rl K m S H) {a : Addr} (h : lv K m S a) : ∃ u, H a = some u ∧ Mb u := by
  rcases h with h | ⟨n, o, e1, e2, e3⟩
  · exact (r.hid a h).2
  · have q := r.obj n a o e1 e2
    cases o with
    | lst l => obtain ⟨vs, h, _⟩ := q; exact ⟨_, h, trivial⟩
    | dic l => obtain ⟨vs, h, _⟩ := q; exact ⟨_, h, trivial⟩
    | dik l => obtain ⟨vs, h, _⟩ := q; exact ⟨_, h, trivial⟩
    | ins c l => obtain ⟨C, dx, vs, _, h, _⟩ := q; exact ⟨_, h, trivial⟩
    | fz l => cases e3
theorem sqT_upd {a b : Addr} {o : HO} {vs : List V} (h : H a = some (.tup vs)) (hb : H b = none ∨ ∃ u, H b = some u ∧ Mb u) : upd H b o a = some (.tup vs) := by
  have ne : a ≠ b := by
    rintro rfl
    rcases hb with q | ⟨u, q, mu⟩
    · rw [h] at q; cases q
    · rw [h] at q; cases q; exact mu
  rw [upd_ne ne]
  exact h
theorem Rl.hne (r : Rl K m S H) {a p : Addr} (h : K.h a) (hp : H p = none) : a ≠ p := by
  rintro rfl
  obtain ⟨u, e, _⟩ := (r.hid a h).2
  rw [hp] at e; cases e
/-- a new thing that is not kept as a changing one -/
theorem Nx.new (r : Rl K m S H) {p : Addr} {o : HO} (hp : H p = none) : Nx K m S H m S (upd H p o) :=
  ⟨fun a vs h => sqT_upd h (.inl hp), fun a vs h n => ⟨by rw [upd_ne (ne_of_none h hp)]; exact h, n⟩, ⟨[], by simp⟩, fun a x u h => by rw [upd_ne (ne_of_none h hp)]; exact h, fun a u h => by rw [upd_ne (ne_of_none h hp)]; exact h,
    fun a h => upd_ne (r.hne h hp), fun a u h => by rw [upd_ne (ne_of_none h hp)]; exact h⟩
end
end DL

namespace DL
open PySem PySem.Spec PyProof.Rows L2
section
variable {K : Kh} {m m' m1 m2 : List Addr} {S S' S1 S2 : Sto} {H H' H1 H2 : Hp} {a p : Addr} {n : Nat}
theorem RO.nx (x : Nx K m S H m' S' H') {o : O} (h : RO K m S H a o) (e : H' a = H a) : RO K m' S' H' a o := by
  cases o with
  | lst l => obtain ⟨vs, q, r⟩ := h; exact ⟨vs, e.trans q, r.nx x⟩
  | fz l => obtain ⟨vs, q, r⟩ := h; exact ⟨vs, e.trans q, r.nx x⟩
  | dic l => obtain ⟨ws, q, r⟩ := h; exact ⟨ws, e.trans q, r.nx x⟩
  | dik l => obtain ⟨ws, q, r⟩ := h; exact ⟨ws, e.trans q, r.nx x⟩
  | ins c l => obtain ⟨C, dx, ws, hc, q, ho, r⟩ := h; exact ⟨C, dx, ws, hc, e.trans q, x.own _ _ ho, r.nx x⟩
theorem RO.some {o : O} (h : RO K m S H a o) : ∃ u, H a = some u := by
  cases o with
  | lst l => obtain ⟨vs, q, _⟩ := h; exact ⟨_, q⟩
  | fz l => obtain ⟨vs, q, _⟩ := h; exact ⟨_, q⟩
  | dic l => obtain ⟨ws, q, _⟩ := h; exact ⟨_, q⟩
  | dik l => obtain ⟨ws, q, _⟩ := h; exact ⟨_, q⟩
  | ins c l => obtain ⟨C, dx, ws, _, q, _⟩ := h; exact ⟨_, q⟩
theorem Rl.at (r : Rl K m S H) (em : m[n]? = some a) : ∃ o, S[n]? = some o ∧ RO K m S H a o := by
  have h := (List.getElem?_eq_some_iff.mp em).1
  have h2 : n < S.length := by rw [← r.len]; exact h
  exact ⟨S[n], List.getElem?_eq_getElem h2, r.obj n a _ em (List.getElem?_eq_getElem h2)⟩
theorem Rl.adr (r : Rl K m S H) {o : O} (es : S[n]? = some o) : ∃ a, m[n]? = some a ∧ RO K m S H a o := by
  have h := (List.getElem?_eq_some_iff.mp es).1
  have h2 : n < m.length := by rw [r.len]; exact h
  exact ⟨m[n], List.getElem?_eq_getElem h2, r.obj n _ o (List.getElem?_eq_getElem h2) es⟩
theorem Rl.in_some (r : Rl K m S H) (h : a ∈ m) : ∃ u, H a = some u := by
  obtain ⟨n, e⟩ := List.mem_iff_getElem?.mp h
  obtain ⟨o, _, q⟩ := r.at e
  exact q.some
/-- a new thing, untold -/
theorem Rl.new {o : HO} (r : Rl K m S H) (hp : H p = none) : Rl K m S (upd H p o) := by
  refine ⟨r.len, r.nd, fun a h => ⟨(r.hid a h).1, by rw [upd_ne (r.hne h hp)]; exact (r.hid a h).2⟩, fun n a x em es => ?_⟩
  have q := r.obj n a x em es
  obtain ⟨u, hu⟩ := q.some
  exact q.nx (Nx.new r hp) (upd_ne (ne_of_none hu hp))
theorem nodup_ne {l : List Addr} (h : l.Nodup) {i j : Nat} {x y : Addr} (hi : l[i]? = some x) (hj : l[j]? = some y) (ne : i ≠ j) : x ≠ y := by
  rintro rfl
  obtain ⟨h1, e1⟩ := List.getElem?_eq_some_iff.mp hi
  obtain ⟨h2, e2⟩ := List.getElem?_eq_some_iff.mp hj
  exact ne ((List.getElem_inj h).mp (e1.trans e2.symm))
theorem lv_set {o o' : O} (es : S[n]? = some o) (ol : O.live o = true) (h : lv K m (S.set n o') a) : lv K m S a := by
  rcases h with h | ⟨k, x, e1, e2, e3⟩
  · exact .inl h
  · by_cases hk : n = k
    · subst hk
      exact .inr ⟨n, o, e1, es, ol⟩
    · rw [List.getElem?_set_ne hk] at e2
      exact .inr ⟨k, x, e1, e2, e3⟩
/-- more is being made: nothing told so far speaks of it -/
theorem RP.nxh {h' : Addr → Prop} (x : Nx K m S H m' S' H') (hs : ∀ a, h' a → K.h a ∨ H a = none) {d : PyData} {v : V} (h : RP K H (lv K m S) d v) : RP ⟨K.K, h', K.g⟩ H' (lv ⟨K.K, h', K.g⟩ m' S') d v := by
  have key := RP.mono (K := K) (H' := H') (L' := lv ⟨K.K, h', K.g⟩ m' S') x.tup (fun a vs e nl => by
    obtain ⟨e1, n1⟩ := x.lst a vs e nl
    refine ⟨e1, fun z => ?_⟩
    rcases z with z | z
    · rcases hs a z with q | q
      · exact nl (.inl q)
      · rw [e] at q; cases q
    · exact n1 (.inr z)) d v h
  exact RP.kk (K := K) (K' := ⟨K.K, h', K.g⟩) rfl _ _ key
theorem RD.nxh {h' : Addr → Prop} (x : Nx K m S H m' S' H') (hs : ∀ a, h' a → K.h a ∨ H a = none) {d : D} {v : V} (h : RD K m S H d v) : RD ⟨K.K, h', K.g⟩ m' S' H' d v := by
  cases d with
  | p d => exact RP.nxh x hs h
  | ob n => exact (RD.nx x (d := .ob n) h : RD K m' S' H' (.ob n) v)
  | scr ns => exact (RD.nx x (d := .scr ns) h : RD K m' S' H' (.scr ns) v)
  | xc a dd fs => exact (RD.nx x (d := .xc a dd fs) h : RD K m' S' H' (.xc a dd fs) v)
theorem RDs.nxh {h' : Addr → Prop} (x : Nx K m S H m' S' H') (hs : ∀ a, h' a → K.h a ∨ H a = none) {d : List D} {v : List V} (h : RDs K m S H d v) : RDs ⟨K.K, h', K.g⟩ m' S' H' d v := pairMono (fun _ _ => RD.nxh x hs) h
theorem RE.nxh {h' : Addr → Prop} (x : Nx K m S H m' S' H') (hs : ∀ a, h' a → K.h a ∨ H a = none) {ρ : Env} {σ : St} (h : RE K m S H ρ σ) : RE ⟨K.K, h', K.g⟩ m' S' H' ρ σ :=
  pairMono (fun _ _ q d e => let ⟨v, a, b⟩ := q d e; ⟨v, a, RD.nxh x hs b⟩) h
/-- what is no longer being made may be spoken of -/
theorem RD.unh {h' : Addr → Prop} (hs : ∀ a, h' a → K.h a) {d : D} {v : V} (h : RD K m S H d v) : RD ⟨K.K, h', K.g⟩ m S H d v := by
  cases d with
  | p d =>
    refine RP.kk (K := K) (K' := ⟨K.K, h', K.g⟩) rfl _ _ (RP.mono (K := K) (L' := lv ⟨K.K, h', K.g⟩ m S) (fun _ _ q => q) (fun a vs e nl => ⟨e, fun z => nl ?_⟩) d v h)
    rcases z with z | z
    · exact .inl (hs a z)
    · exact .inr z
  | ob n => exact h
  | scr ns => exact h
  | xc a dd fs => exact h
theorem Rl.unh {h' : Addr → Prop} (hs : ∀ a, h' a → K.h a) (r : Rl K m S H) : Rl ⟨K.K, h', K.g⟩ m S H := by
  refine ⟨r.len, r.nd, fun a h => r.hid a (hs a h), fun n a o em es => ?_⟩
  have q := r.obj n a o em es
  cases o with
  | lst l => obtain ⟨vs, e, q⟩ := q; exact ⟨vs, e, pairMono (fun _ _ => RD.unh hs) q⟩
  | fz l =>
    obtain ⟨vs, e, q⟩ := q
    exact ⟨vs, e, RDs_p.mp (pairMono (fun _ _ => RD.unh hs) (RDs_p.mpr q))⟩
  | dic l => obtain ⟨vs, e, q⟩ := q; exact ⟨vs, e, pairMono (fun _ _ q => ⟨q.1, RD.unh hs q.2⟩) q⟩
  | dik l => obtain ⟨vs, e, q⟩ := q; exact ⟨vs, e, pairMono (fun _ _ q => ⟨q.1, RD.unh hs q.2⟩) q⟩
  | ins c l => obtain ⟨C, dx, vs, hc, e, ho, q⟩ := q; exact ⟨C, dx, vs, hc, e, ho, pairMono (fun _ _ q => ⟨q.1, RD.unh hs q.2⟩) q⟩
/-- a new thing that is being made -/
theorem Rl.hide {ho : HO} (r : Rl K m S H) (hp : H p = none) (mu : Mb ho) : Rl ⟨K.K, fun a => K.h a ∨ a = p, K.g⟩ m S (upd H p ho) := by
  have x := Nx.new (o := ho) r hp
  have hs : ∀ a, (K.h a ∨ a = p) → K.h a ∨ H a = none := fun a z => z.elim .inl fun z => .inr (by rw [z]; exact hp)
  refine ⟨r.len, r.nd, fun a h => ?_, fun n a o em es => ?_⟩
  · rcases h with h | h
    · exact ⟨(r.hid a h).1, by rw [upd_ne (r.hne h hp)]; exact (r.hid a h).2⟩
    · subst h
      exact ⟨fun z => (by
        obtain ⟨u, e⟩ := r.in_some z
        rw [hp] at e
        cases e), ho, upd_same, mu⟩
  · have q := r.obj n a o em es
    obtain ⟨u, hu⟩ := q.some
    have e : (upd H p ho) a = H a := upd_ne (ne_of_none hu hp)
    cases o with
    | lst l => obtain ⟨vs, e1, q⟩ := q; exact ⟨vs, e.trans e1, RDs.nxh x hs q⟩
    | fz l =>
      obtain ⟨vs, e1, q⟩ := q
      exact ⟨vs, e.trans e1, RDs_p.mp (RDs.nxh x hs (RDs_p.mpr q))⟩
    | dic l => obtain ⟨vs, e1, q⟩ := q; exact ⟨vs, e.trans e1, pairMono (fun _ _ q => ⟨q.1, RD.nxh x hs q.2⟩) q⟩
    | dik l => obtain ⟨vs, e1, q⟩ := q; exact ⟨vs, e.trans e1, pairMono (fun _ _ q => ⟨q.1, RD.nxh x hs q.2⟩) q⟩
    | ins c l => obtain ⟨C, dx, vs, hc, e1, h2, q⟩ := q; exact ⟨C, dx, vs, hc, e.trans e1, x.own _ _ h2, pairMono (fun _ _ q => ⟨q.1, RD.nxh x hs q.2⟩) q⟩
/-- .. is written -/
theorem hid_upd_lst {o : HO} (r : Rl K m S H) (hp : K.h p) : ∀ a vs, H a = some (.lst vs) → ¬ lv K m S a → (upd H p o) a = some (.lst vs) ∧ ¬ lv K m S a := fun a vs e nl =>
  ⟨by rw [upd_ne (fun z => nl (.inl (by rw [z]; exact hp)))]; exact e, nl⟩
theorem Rl.hidw {o : HO} (r : Rl K m S H) (hp : K.h p) (mu : Mb o) : Rl K m S (upd H p o) := by
  have ht : ∀ a vs, H a = some (.tup vs) → (upd H p o) a = some (.tup vs) := fun a vs h => sqT_upd h (.inr (r.hid p hp).2)
  have hl := hid_upd_lst (o := o) r hp
  have hd : ∀ {d : D} {v : V}, RD K m S H d v → RD K m S (upd H p o) d v := fun {d v} h => by
    cases d with
    | p d => exact RP.mono ht hl d v h
    | ob n => exact h
    | scr ns =>
      obtain ⟨a, rfl, h | h⟩ := h
      · obtain ⟨ob, h⟩ := h
        refine ⟨a, rfl, .inl ⟨ob, ?_⟩⟩
        rw [upd_ne fun z => ?_]
        · exact h
        · subst z
          obtain ⟨u, e, mu⟩ := (r.hid a hp).2
          rw [h] at e; cases e; exact mu
      · exact ⟨a, rfl, .inr h⟩
    | xc a dd fs =>
      refine ⟨h.1, fun d e => ?_⟩
      have q := h.2 d e
      rw [upd_ne fun z => ?_]
      · exact q
      · subst z
        obtain ⟨u, e2, mu⟩ := (r.hid d hp).2
        rw [q] at e2; cases e2; exact mu
  refine ⟨r.len, r.nd, fun a h => ?_, fun n a u em es => ?_⟩
  · refine ⟨(r.hid a h).1, ?_⟩
    by_cases e : a = p
    · subst e; exact ⟨o, upd_same, mu⟩
    · rw [upd_ne e]; exact (r.hid a h).2
  · have ne : a ≠ p := fun z => (r.hid p hp).1 (by rw [← z]; exact List.mem_of_getElem? em)
    have q := r.obj n a u em es
    cases u with
    | lst l => obtain ⟨vs, e1, q⟩ := q; exact ⟨vs, (upd_ne ne).trans e1, pairMono (fun _ _ => hd) q⟩
    | fz l =>
      obtain ⟨vs, e1, q⟩ := q
      exact ⟨vs, (upd_ne ne).trans e1, RPs.mono ht hl l vs q⟩
    | dic l => obtain ⟨vs, e1, q⟩ := q; exact ⟨vs, (upd_ne ne).trans e1, pairMono (fun _ _ q => ⟨q.1, hd q.2⟩) q⟩
    | dik l => obtain ⟨vs, e1, q⟩ := q; exact ⟨vs, (upd_ne ne).trans e1, pairMono (fun _ _ q => ⟨q.1, hd q.2⟩) q⟩
    | ins c l =>
      obtain ⟨C, dx, vs, hc, e1, h2, q⟩ := q
      refine ⟨C, dx, vs, hc, (upd_ne ne).trans e1, ?_, pairMono (fun _ _ q => ⟨q.1, hd q.2⟩) q⟩
      rw [upd_ne fun z => ?_]
      · exact h2
      · subst z
        obtain ⟨u, e3, mu⟩ := (r.hid _ hp).2
        rw [h2] at e3; cases e3; exact mu
/-- what stays, seen from ahead of the making -/
theorem Nx.hidden {h' : Addr → Prop} (x : Nx K m S H m1 S1 H1) (y : Nx ⟨K.K, h', K.g⟩ m1 S1 H1 m2 S2 H2) (h1 : ∀ a, K.h a → h' a) (hs : ∀ a, h' a → K.h a ∨ H a = none) : Nx K m S H m2 S2 H2 := by
  refine ⟨fun a vs h => y.tup a vs (x.tup a vs h), fun a vs h n => ?_, ?_, fun a o u h => y.frz a o u (x.frz a o u h), fun a u h => y.xd a u (x.xd a u h), fun a h => (y.hid a (h1 a h)).trans (x.hid a h), fun a u h => y.own a u (x.own a u h)⟩
  · obtain ⟨e, nl⟩ := x.lst a vs h n
    obtain ⟨e2, n2⟩ := y.lst a vs e (fun z => by
      rcases z with z | z
      · rcases hs a z with q | q
        · exact n (.inl q)
        · rw [h] at q; cases q
      · exact nl (.inr z))
    refine ⟨e2, fun z => n2 ?_⟩
    rcases z with z | z
    · exact .inl (h1 a z)
    · exact .inr z
  · obtain ⟨t, rfl⟩ := x.ext
    obtain ⟨t2, rfl⟩ := y.ext
    exact ⟨t ++ t2, by simp⟩
theorem Nx.hidw {o : HO} (x : Nx K m S H m1 S1 H1) (hp : H p = none) (r : ∃ u, H1 p = some u ∧ Mb u) (hk : ¬ K.h p) : Nx K m S H m1 S1 (upd H1 p o) := by
  refine ⟨fun a vs h => sqT_upd (x.tup a vs h) (.inr r), fun a vs h n => ?_, x.ext, fun a u w h => ?_, fun a u h => ?_, fun a h => ?_, fun a u h => ?_⟩
  · obtain ⟨e, nl⟩ := x.lst a vs h n
    exact ⟨by rw [upd_ne (ne_of_none h hp)]; exact e, nl⟩
  · rw [upd_ne (ne_of_none h hp)]; exact x.frz a u w h
  · rw [upd_ne (ne_of_none h hp)]; exact x.xd a u h
  · rw [upd_ne (fun z => hk (by rw [← z]; exact h))]; exact x.hid a h
  · rw [upd_ne (ne_of_none h hp)]; exact x.own a u h
/-- a changing thing is changed -/
theorem Nx.put {o o' : O} {ho : HO} (r : Rl K m S H) (em : m[n]? = some a) (es : S[n]? = some o) (ol : O.live o = true) : Nx K m S H m (S.set n o') (upd H a ho) := by
  have ha : lv K m S a := .inr ⟨n, o, em, es, ol⟩
  have hm : a ∈ m := List.mem_of_getElem? em
  refine ⟨fun b vs h => sqT_upd h (.inr (lvAddr r ha)), fun b vs h nl => ⟨?_, fun z => nl (lv_set es ol z)⟩, ⟨[], by simp⟩, fun b x u h => ?_, fun b u h => ?_, fun b h => ?_, fun b u h => ?_⟩
  · rw [upd_ne (fun z => nl (by rw [z]; exact ha))]; exact h
  · have ne : b ≠ a := by
      rintro rfl
      obtain ⟨u', q, mu⟩ := lvAddr r ha
      rw [h] at q; cases q; exact mu
    rw [upd_ne ne]; exact h
  · have ne : b ≠ a := by
      rintro rfl
      obtain ⟨u', q, mu⟩ := lvAddr r ha
      rw [h] at q; cases q; exact mu
    rw [upd_ne ne]; exact h
  · exact upd_ne fun z => (r.hid b h).1 (by rw [z]; exact hm)
  · have ne : b ≠ a := by
      rintro rfl
      obtain ⟨u', q, mu⟩ := lvAddr r ha
      rw [h] at q; cases q; exact mu
    rw [upd_ne ne]; exact h
theorem Rl.put {o o' : O} {ho : HO} (r : Rl K m S H) (em : m[n]? = some a) (es : S[n]? = some o) (ol : O.live o = true) (ok : RO K m (S.set n o') (upd H a ho) a o') : Rl K m (S.set n o') (upd H a ho) := by
  have hm : a ∈ m := List.mem_of_getElem? em
  refine ⟨by rw [List.length_set]; exact r.len, r.nd, fun b h => ⟨(r.hid b h).1, by rw [upd_ne fun z => (r.hid b h).1 (by rw [z]; exact hm)]; exact (r.hid b h).2⟩, fun k b x ek ex => ?_⟩
  by_cases hk : n = k
  · subst hk
    rw [em] at ek; cases ek
    rw [List.getElem?_set_self (List.getElem?_eq_some_iff.mp es).1] at ex; cases ex
    exact ok
  · rw [List.getElem?_set_ne hk] at ex
    exact (r.obj k b x ek ex).nx (Nx.put r em es ol) (upd_ne (nodup_ne r.nd ek em (Ne.symm hk)))
theorem Rl.putL {l l' : List D} {vs : List V} (r : Rl K m S H) (em : m[n]? = some a) (es : S[n]? = some (.lst l)) (h : RDs K m S H l' vs) : Rl K m (S.set n (.lst l')) (upd H a (.lst vs)) :=
  r.put em es rfl ⟨vs, upd_same, h.nx (Nx.put r em es rfl)⟩
theorem Rl.putT {l l' : List (List Key × D)} {vs : List (List Key × V)} (r : Rl K m S H) (em : m[n]? = some a) (es : S[n]? = some (.dic l)) (h : RKV K m S H l' vs) : Rl K m (S.set n (.dic l')) (upd H a (.dT vs)) :=
  r.put em es rfl ⟨vs, upd_same, h.nx (Nx.put r em es rfl)⟩
theorem Rl.putK {l l' : List (Key × D)} {vs : List (Key × V)} (r : Rl K m S H) (em : m[n]? = some a) (es : S[n]? = some (.dik l)) (h : RKK K m S H l' vs) : Rl K m (S.set n (.dik l')) (upd H a (.dK vs)) :=
  r.put em es rfl ⟨vs, upd_same, h.nx (Nx.put r em es rfl)⟩
theorem Rl.putI {c : Str} {l l' : List (Str × D)} {C dx : Addr} {vs : List (Str × V)} (r : Rl K m S H) (em : m[n]? = some a) (es : S[n]? = some (.ins c l)) (hc : K.g c = some (.ref C)) (ho : H dx = some (.own a)) (h : RFS K m S H l' vs) : Rl K m (S.set n (.ins c l')) (upd H a (.ins C dx vs)) :=
  r.put em es rfl ⟨C, dx, vs, hc, upd_same, (Nx.put (o' := .ins c l') r em es rfl).own _ _ ho, h.nx (Nx.put r em es rfl)⟩
/-- a new changing thing -/
theorem lv_push {o : O} (r : Rl K m S H) (h : lv K (m ++ [p]) (S ++ [o]) a) : lv K m S a ∨ a = p := by
  rcases h with h | ⟨k, x, e1, e2, e3⟩
  · exact .inl (.inl h)
  · by_cases hk : k < m.length
    · rw [List.getElem?_append_left hk] at e1
      rw [List.getElem?_append_left (by rw [← r.len]; exact hk)] at e2
      exact .inl (.inr ⟨k, x, e1, e2, e3⟩)
    · rw [List.getElem?_append_right (Nat.le_of_not_lt hk)] at e1
      have : k - m.length = 0 := by
        have := (List.getElem?_eq_some_iff.mp e1).1
        simp at this
        omega
      rw [this] at e1
      exact .inr (Option.some.inj e1).symm
theorem Nx.push {o : O} {ho : HO} (r : Rl K m S H) (hp : H p = none) : Nx K m S H (m ++ [p]) (S ++ [o]) (upd H p ho) := by
  refine ⟨fun b vs h => sqT_upd h (.inl hp), fun b vs h nl => ⟨?_, fun z => ?_⟩, ⟨[p], rfl⟩, fun b x u h => ?_, fun b u h => ?_, fun b h => upd_ne (r.hne h hp), fun b u h => ?_⟩
  · rw [upd_ne (ne_of_none h hp)]; exact h
  · rcases lv_push r z with z | z
    · exact nl z
    · subst z; rw [h] at hp; cases hp
  · rw [upd_ne (ne_of_none h hp)]; exact h
  · rw [upd_ne (ne_of_none h hp)]; exact h
  · rw [upd_ne (ne_of_none h hp)]; exact h
theorem Rl.push {o : O} {ho : HO} (r : Rl K m S H) (hp : H p = none) (ok : RO K (m ++ [p]) (S ++ [o]) (upd H p ho) p o) : Rl K (m ++ [p]) (S ++ [o]) (upd H p ho) := by
  refine ⟨by simp [r.len], ?_, fun b h => ⟨fun z => ?_, by rw [upd_ne (r.hne h hp)]; exact (r.hid b h).2⟩, fun k b x ek ex => ?_⟩
  · rw [List.nodup_append]
    refine ⟨r.nd, by simp, fun x hx y hy => ?_⟩
    have : y = p := by simpa using hy
    subst this
    obtain ⟨u, hu⟩ := r.in_some hx
    exact ne_of_none hu hp
  · rcases List.mem_append.mp z with z | z
    · exact (r.hid b h).1 z
    · exact r.hne h hp (by simpa using z)
  · by_cases hk : k < m.length
    · rw [List.getElem?_append_left hk] at ek
      rw [List.getElem?_append_left (by rw [← r.len]; exact hk)] at ex
      have q := r.obj k b x ek ex
      obtain ⟨u, hu⟩ := q.some
      exact q.nx (Nx.push r hp) (upd_ne (ne_of_none hu hp))
    · rw [List.getElem?_append_right (Nat.le_of_not_lt hk)] at ek
      have h0 : k - m.length = 0 := by
        have := (List.getElem?_eq_some_iff.mp ek).1
        simp at this
        omega
      rw [h0] at ek
      have eb : b = p := (Option.some.inj ek).symm
      subst eb
      rw [List.getElem?_append_right (by rw [← r.len]; omega), ← r.len, h0] at ex
      have : x = o := (Option.some.inj ex).symm
      subst this
      exact ok
theorem Rl.pushL {l : List D} {vs : List V} (r : Rl K m S H) (hp : H p = none) (h : RDs K m S H l vs) : Rl K (m ++ [p]) (S ++ [.lst l]) (upd H p (.lst vs)) :=
  r.push hp ⟨vs, upd_same, h.nx (Nx.push r hp)⟩
theorem RD.push {o : O} (r : Rl K m S H) : RD K (m ++ [p]) (S ++ [o]) H' (.ob S.length) (.ref p) := by
  refine ⟨p, ?_, rfl⟩
  rw [← r.len, List.getElem?_append_right (Nat.le_refl _), Nat.sub_self]
  rfl
/-- a changing list comes to rest -/
theorem Nx.rest {l : List PyData} {o : O} (es : S[n]? = some o) (ol : O.live o = true) : Nx K m S H m (S.set n (.fz l)) H :=
  ⟨fun _ _ h => h, fun _ _ h nl => ⟨h, fun z => nl (lv_set es ol z)⟩, ⟨[], by simp⟩, fun _ _ _ h => h, fun _ _ h => h, fun _ _ => rfl, fun _ _ h => h⟩
theorem Rl.rest {l : List PyData} (r : Rl K m S H) (es : S[n]? = some (.lst (l.map .p))) : Rl K m (S.set n (.fz l)) H := by
  refine ⟨by rw [List.length_set]; exact r.len, r.nd, r.hid, fun k b x ek ex => ?_⟩
  by_cases hk : n = k
  · subst hk
    rw [List.getElem?_set_self (List.getElem?_eq_some_iff.mp es).1] at ex; cases ex
    obtain ⟨vs, q, h⟩ := r.obj n b _ ek es
    exact ⟨vs, q, RPs.nx (Nx.rest es rfl) (RDs_p.mp h)⟩
  · rw [List.getElem?_set_ne hk] at ex
    exact (r.obj k b x ek ex).nx (Nx.rest es rfl) rfl
theorem rest_not_lv {l : List PyData} (r : Rl K m S H) (em : m[n]? = some a) (es : S[n]? = some (.lst (l.map .p))) : ¬ lv K m (S.set n (.fz l)) a := by
  rintro (h | ⟨k, x, e1, e2, e3⟩)
  · exact (r.hid a h).1 (List.mem_of_getElem? em)
  · by_cases hk : n = k
    · subst hk
      rw [List.getElem?_set_self (List.getElem?_eq_some_iff.mp es).1] at e2; cases e2
      cases e3
    · exact nodup_ne r.nd e1 em (Ne.symm hk) rfl
/-- as a list at rest -/
theorem RD.rest {l : List PyData} (r : Rl K m S H) (em : m[n]? = some a) (es : S[n]? = some (.lst (l.map .p))) : RD K m (S.set n (.fz l)) H (.lst l) (.ref a) := by
  obtain ⟨vs, q, h⟩ := r.obj n a _ em es
  show RP _ _ _ _ _
  rw [RP]
  exact ⟨a, vs, rfl, q, rest_not_lv r em es, RPs.nx (Nx.rest es rfl) (RDs_p.mp h)⟩
/-! what stands only in what is left behind is dropped -/
def ClD (k : Nat) : D → Prop
  | .ob n => n < k
  | _ => True
def ClO (k : Nat) : O → Prop
  | .lst l => ∀ d ∈ l, ClD k d
  | .dic l => ∀ d ∈ l, ClD k d.2
  | .dik l => ∀ d ∈ l, ClD k d.2
  | .ins _ l => ∀ d ∈ l, ClD k d.2
  | .fz _ => True
def ClS (k : Nat) (S : Sto) : Prop := ∀ o ∈ S, ClO k o
theorem RD.cl {d : D} {v : V} (h : RD K m S H d v) : ClD m.length d := by
  cases d with
  | p _ => trivial
  | scr _ => trivial
  | xc _ _ _ => trivial
  | ob n =>
    obtain ⟨a, e, _⟩ := h
    exact (List.getElem?_eq_some_iff.mp e).1
theorem pairAll {α β : Type} {F : α → β → Prop} {P : α → Prop} (h : ∀ a b, F a b → P a) {l : List α} {r : List β} (q : Paired F l r) : ∀ a ∈ l, P a := by
  induction q with
  | nil => intro a h; cases h
  | cons x _ ih =>
    intro a ha
    rcases List.mem_cons.mp ha with rfl | ha
    · exact h _ _ x
    · exact ih a ha
theorem RO.cl {o : O} (h : RO K m S H a o) : ClO m.length o := by
  cases o with
  | lst l => obtain ⟨vs, _, r⟩ := h; exact pairAll (F := RD K m S H) (P := ClD m.length) (fun _ _ q => q.cl) r
  | dic l => obtain ⟨vs, _, r⟩ := h; exact pairAll (F := fun (p : List Key × D) (q : List Key × V) => p.1 = q.1 ∧ RD K m S H p.2 q.2) (P := fun (d : List Key × D) => ClD m.length d.2) (fun _ _ q => q.2.cl) r
  | dik l => obtain ⟨vs, _, r⟩ := h; exact pairAll (F := fun (p : Key × D) (q : Key × V) => p.1 = q.1 ∧ RD K m S H p.2 q.2) (P := fun (d : Key × D) => ClD m.length d.2) (fun _ _ q => q.2.cl) r
  | ins c l => obtain ⟨C, dx, vs, _, _, _, r⟩ := h; exact pairAll (F := fun (p : Str × D) (q : Str × V) => p.1 = q.1 ∧ RD K m S H p.2 q.2) (P := fun (d : Str × D) => ClD m.length d.2) (fun _ _ q => q.2.cl) r
  | fz l => trivial
theorem Rl.cl (r : Rl K m S H) : ClS S.length S := fun o ho => by
  obtain ⟨n, e⟩ := List.mem_iff_getElem?.mp ho
  obtain ⟨a, _, q⟩ := r.adr e
  rw [← r.len]
  exact q.cl
theorem lv_drop {k : Nat} {T : Sto} (hk : S.length = k) (h : lv K (m.take k) S a) : lv K m (S ++ T) a := by
  rcases h with h | ⟨i, x, e1, e2, e3⟩
  · exact .inl h
  · have hi : i < k := by rw [← hk]; exact (List.getElem?_eq_some_iff.mp e2).1
    rw [List.getElem?_take_of_lt hi] at e1
    exact .inr ⟨i, x, e1, by rw [List.getElem?_append_left (by rw [hk]; exact hi)]; exact e2, e3⟩
theorem RD.drop {T : Sto} {d : D} {v : V} (h : RD K m (S ++ T) H d v) (c : ClD S.length d) : RD K (m.take S.length) S H d v := by
  cases d with
  | p d => exact RP.mono (fun _ _ q => q) (fun _ _ q nl => ⟨q, fun z => nl (lv_drop rfl z)⟩) d v h
  | scr _ => exact h
  | xc _ _ _ => exact h
  | ob n =>
    obtain ⟨a, e, rfl⟩ := h
    exact ⟨a, by rw [List.getElem?_take_of_lt c]; exact e, rfl⟩
theorem pairMonoIn {α β : Type} {F G : α → β → Prop} {l : List α} {r : List β} (h : ∀ a ∈ l, ∀ b, F a b → G a b) (q : Paired F l r) : Paired G l r := by
  induction q with
  | nil => exact .nil
  | cons a _ ih => exact .cons (h _ List.mem_cons_self _ a) (ih fun x hx => h x (List.mem_cons_of_mem _ hx))
theorem Rl.drop {T : Sto} (r : Rl K m (S ++ T) H) (c : ClS S.length S) : Rl K (m.take S.length) S H := by
  have hl : S.length ≤ m.length := by rw [r.len]; simp
  refine ⟨by rw [List.length_take]; omega, r.nd.sublist (List.take_sublist _ _), fun a h => ⟨fun z => (r.hid a h).1 (List.mem_of_mem_take z), (r.hid a h).2⟩, fun n a o em es => ?_⟩
  have hn : n < S.length := (List.getElem?_eq_some_iff.mp es).1
  rw [List.getElem?_take_of_lt hn] at em
  have q := r.obj n a o em (by rw [List.getElem?_append_left hn]; exact es)
  have co := c o (List.mem_of_getElem? es)
  cases o with
  | lst l =>
    obtain ⟨vs, h1, h2⟩ := q
    exact ⟨vs, h1, pairMonoIn (fun d hd v h => RD.drop h (co d hd)) h2⟩
  | dic l =>
    obtain ⟨vs, h1, h2⟩ := q
    exact ⟨vs, h1, pairMonoIn (fun d hd v h => ⟨h.1, RD.drop h.2 (co d hd)⟩) h2⟩
  | dik l =>
    obtain ⟨vs, h1, h2⟩ := q
    exact ⟨vs, h1, pairMonoIn (fun d hd v h => ⟨h.1, RD.drop h.2 (co d hd)⟩) h2⟩
  | ins c l =>
    obtain ⟨C, dx, vs, hc, h1, ho, h2⟩ := q
    exact ⟨C, dx, vs, hc, h1, ho, pairMonoIn (fun d hd v h => ⟨h.1, RD.drop h.2 (co d hd)⟩) h2⟩
  | fz l =>
    obtain ⟨vs, h1, h2⟩ := q
    exact ⟨vs, h1, RPs.mono (fun _ _ q => q) (fun _ _ q nl => ⟨q, fun z => nl (lv_drop rfl z)⟩) l vs h2⟩
theorem Nx.drop {T : Sto} (x : Nx K m S H m' (S' ++ T) H') (r : Rl K m S H) (r' : Rl K m' (S' ++ T) H') (hl : S.length ≤ S'.length) : Nx K m S H (m'.take S'.length) S' H' := by
  refine ⟨x.tup, fun a vs h n => ?_, ?_, x.frz, x.xd, x.hid, x.own⟩
  · obtain ⟨h1, h2⟩ := x.lst a vs h n
    exact ⟨h1, fun z => h2 (lv_drop rfl z)⟩
  · obtain ⟨t, rfl⟩ := x.ext
    refine ⟨t.take (S'.length - m.length), ?_⟩
    rw [List.take_append]
    rw [List.take_of_length_le (by rw [r.len]; exact hl)]
end
end DL

namespace DL
open PySem PySem.Spec PyProof.Rows L2
/-! ### what a term computes -/
/-- a raised thing: its class by name, its fields -/
structure Xc where
  c : Str
  fs : List (Str × PyData)
inductive Rs (α : Type) where
  | st
  | ok (a : α) (S : Sto)
  | ex (x : Xc) (S : Sto)
def Rs.bind {α β : Type} (r : Rs α) (f : α → Sto → Rs β) : Rs β := match r with
  | .st => .st
  | .ok a S => f a S
  | .ex x S => .ex x S
abbrev ED := Env → Sto → Rs D
abbrev AD := Env → Sto → Rs (List D)
abbrev BD := Env → Sto → Rs Bool
inductive Out where
  | st
  | nx (ρ : Env) (S : Sto)
  | bk (ρ : Env) (S : Sto)
  | ct (ρ : Env) (S : Sto)
  | rt (d : D) (S : Sto)
  | ex (x : Xc) (ρ : Env) (S : Sto)
abbrev SD := Env → Sto → Out
def liftS {α : Type} (ρ : Env) (r : Rs α) (k : α → Sto → Out) : Out := match r with
  | .st => .st
  | .ok a S => k a S
  | .ex x S => .ex x ρ S
@[simp] theorem Rs.bind_ok {α β : Type} (a : α) (S : Sto) (f : α → Sto → Rs β) : Rs.bind (.ok a S) f = f a S := rfl
@[simp] theorem liftS_ok {α : Type} (ρ : Env) (a : α) (S : Sto) (k : α → Sto → Out) : liftS ρ (.ok a S) k = k a S := rfl

def RX (mg : Str → Option Value) (K : Kh) (L : Addr → Prop) (H : Hp) (x : Xc) (c : Value) (dd : Option Addr) : Prop :=
  mg x.c = some c ∧ ((x.fs = [] ∧ dd = none) ∨ ∃ a, dd = some a ∧ x.fs ≠ [] ∧ H a = some (.xd (sVs x.fs)))

abbrev KX (X : Cx) (κ : Addr → Prop) : Kh := ⟨X.K, κ, X.mg⟩
def Post (X : Cx) (κ : Addr → Prop) (W : WX) (m : List Addr) (S : Sto) (H : Hp) (σ : St) {α β : Type} (R : List Addr → Sto → Hp → α → β → Prop) (r : Rs α) (Q : β → Hp → Prop) : Prop := match r with
  | .st => False
  | .ok d S' => ∀ v H' m', Nx (KX X κ) m S H m' S' H' → Rl (KX X κ) m' S' H' → R m' S' H' d v → Q v H'
  | .ex x S' => ∀ H' m' c dd, Nx (KX X κ) m S H m' S' H' → Rl (KX X κ) m' S' H' → RX X.mg (KX X κ) (lv (KX X κ) m' S') H' x c dd → W c dd σ H'
def PostS (X : Cx) (κ : Addr → Prop) (W : WX) (m : List Addr) (S : Sto) (H : Hp) (o : Out) (Dn : Ends) : Prop := match o with
  | .st => False
  | .nx ρ S' => ∀ σ' H' m', Nx (KX X κ) m S H m' S' H' → Rl (KX X κ) m' S' H' → RE (KX X κ) m' S' H' ρ σ' → Dn.nx σ' H'
  | .bk ρ S' => ∀ σ' H' m', Nx (KX X κ) m S H m' S' H' → Rl (KX X κ) m' S' H' → RE (KX X κ) m' S' H' ρ σ' → Dn.bk σ' H'
  | .ct ρ S' => ∀ σ' H' m', Nx (KX X κ) m S H m' S' H' → Rl (KX X κ) m' S' H' → RE (KX X κ) m' S' H' ρ σ' → Dn.ct σ' H'
  | .rt d S' => ∀ v H' m', Nx (KX X κ) m S H m' S' H' → Rl (KX X κ) m' S' H' → RD (KX X κ) m' S' H' d v → Dn.rt v H'
  | .ex x ρ S' => ∀ σ' H' m' c dd, Nx (KX X κ) m S H m' S' H' → Rl (KX X κ) m' S' H' → RE (KX X κ) m' S' H' ρ σ' → RX X.mg (KX X κ) (lv (KX X κ) m' S') H' x c dd → W c dd σ' H'
def Imp (X : Cx) (W : WX) {α β : Type} (R : Kh → List Addr → Sto → Hp → α → β → Prop) (t : St → Hp → (β → Hp → Prop) → Prop) (f : Env → Sto → Rs α) : Prop :=
  ∀ κ ρ S σ H m Q, Rl (KX X κ) m S H → RE (KX X κ) m S H ρ σ → Post X κ W m S H σ (R (KX X κ)) (f ρ S) Q → t σ H Q
def ImpS (X : Cx) (W : WX) (t : TS) (f : SD) : Prop :=
  ∀ κ ρ S σ H m Dn, Rl (KX X κ) m S H → RE (KX X κ) m S H ρ σ → PostS X κ W m S H (f ρ S) Dn → t Dn σ H
abbrev RB : Kh → List Addr → Sto → Hp → Bool → Bool → Prop := fun _ _ _ _ a b => a = b
structure DE (X : Cx) (W : WX) (e : Expr) (f : ED) : Prop where
  ex : ∃ t : TE, PE X e t ∧ Imp X W RD t f
structure DA (X : Cx) (W : WX) (es : List Expr) (f : AD) : Prop where
  ex : ∃ t : TA, PA X es t ∧ Imp X W RDs t f
structure DT (X : Cx) (W : WX) (e : Expr) (f : BD) : Prop where
  ex : ∃ t : TT, PT X e t ∧ Imp X W RB t f
structure DW (X : Cx) (W : WX) (e : Expr) (f : BD) : Prop where
  ex : ∃ t : TT, PW X e t ∧ Imp X W RB t f
structure DS (X : Cx) (W : WX) (st : Stmt) (f : SD) : Prop where
  ex : ∃ t : TS, PS X st t ∧ ImpS X W t f
structure DSs (X : Cx) (W : WX) (st : List Stmt) (f : SD) : Prop where
  ex : ∃ t : TS, PSs X st t ∧ ImpS X W t f

section
variable {X : Cx} {W : WX} {m m1 : List Addr} {S S1 : Sto} {H H1 : Hp} {σ : St} {α α' β β' : Type} {ρ : Env}
theorem Post.nx {R : List Addr → Sto → Hp → α → β → Prop} {r : Rs α} {Q : β → Hp → Prop} (x : Nx (KX X κ) m S H m1 S1 H1) (h : Post X κ W m S H σ R r Q) : Post X κ W m1 S1 H1 σ R r Q := by
  cases r with
  | st => exact h
  | ok d S' => exact fun v H' m' y rl r => h v H' m' (x.trans y) rl r
  | ex e S' => exact fun H' m' c dd y rl r => h H' m' c dd (x.trans y) rl r
theorem PostS.nx {o : Out} {Dn : Ends} (x : Nx (KX X κ) m S H m1 S1 H1) (h : PostS X κ W m S H o Dn) : PostS X κ W m1 S1 H1 o Dn := by
  cases o with
  | st => exact h
  | nx ρ S' => exact fun σ' H' m' y => h σ' H' m' (x.trans y)
  | bk ρ S' => exact fun σ' H' m' y => h σ' H' m' (x.trans y)
  | ct ρ S' => exact fun σ' H' m' y => h σ' H' m' (x.trans y)
  | rt ρ S' => exact fun σ' H' m' y => h σ' H' m' (x.trans y)
  | ex e ρ S' => exact fun σ' H' m' c dd y => h σ' H' m' c dd (x.trans y)
/-- one part behind another -/
theorem Imp.seq {Ra : Kh → List Addr → Sto → Hp → α → β → Prop} {Rb : List Addr → Sto → Hp → α' → β' → Prop} {ta : St → Hp → (β → Hp → Prop) → Prop} {fa : Env → Sto → Rs α} {k : α → Sto → Rs α'} {Q : β' → Hp → Prop} {C : β → Hp → Prop}
    (ha : Imp X W Ra ta fa) (rl : Rl (KX X κ) m S H) (re : RE (KX X κ) m S H ρ σ) (h : Post X κ W m S H σ Rb ((fa ρ S).bind k) Q)
    (hk : ∀ d S1 v H1 m1, Nx (KX X κ) m S H m1 S1 H1 → Rl (KX X κ) m1 S1 H1 → RE (KX X κ) m1 S1 H1 ρ σ → Ra (KX X κ) m1 S1 H1 d v → Post X κ W m1 S1 H1 σ Rb (k d S1) Q → C v H1) : ta σ H C := by
  refine ha κ ρ S σ H m C rl re ?_
  cases e : fa ρ S with
  | st => rw [e] at h; exact h
  | ok d S1 =>
    rw [e] at h
    exact fun v H1 m1 x rl1 r1 => hk d S1 v H1 m1 x rl1 (re.nx x) r1 (Post.nx x h)
  | ex y S1 =>
    rw [e] at h
    exact h
theorem Imp.seqS {Ra : Kh → List Addr → Sto → Hp → α → β → Prop} {ta : St → Hp → (β → Hp → Prop) → Prop} {fa : Env → Sto → Rs α} {k : α → Sto → Out} {Dn : Ends} {C : β → Hp → Prop}
    (ha : Imp X W Ra ta fa) (rl : Rl (KX X κ) m S H) (re : RE (KX X κ) m S H ρ σ) (h : PostS X κ W m S H (liftS ρ (fa ρ S) k) Dn)
    (hk : ∀ d S1 v H1 m1, Nx (KX X κ) m S H m1 S1 H1 → Rl (KX X κ) m1 S1 H1 → RE (KX X κ) m1 S1 H1 ρ σ → Ra (KX X κ) m1 S1 H1 d v → PostS X κ W m1 S1 H1 (k d S1) Dn → C v H1) : ta σ H C := by
  refine ha κ ρ S σ H m C rl re ?_
  cases e : fa ρ S with
  | st => rw [e] at h; exact h
  | ok d S1 =>
    rw [e] at h
    exact fun v H1 m1 x rl1 r1 => hk d S1 v H1 m1 x rl1 (re.nx x) r1 (PostS.nx x h)
  | ex y S1 =>
    rw [e] at h
    exact fun H' m' c dd x rl1 r1 => h σ H' m' c dd x rl1 (re.nx x) r1
theorem Post.ok' {R : List Addr → Sto → Hp → α → β → Prop} {a : α} {Q : β → Hp → Prop} (h : Post X κ W m S H σ R (.ok a S1) Q) {v : β} {H' : Hp} {m' : List Addr} (x : Nx (KX X κ) m S H m' S1 H') (r : Rl (KX X κ) m' S1 H') (q : R m' S1 H' a v) : Q v H' := h v H' m' x r q

/-! ### names, constants -/
def eVar (i : Nat) : ED := fun ρ S => match ρ[i]? with
  | some (some d) => .ok d S
  | _ => .st
def eC (d : PyData) : ED := fun _ S => .ok (.p d) S
theorem de_var {i : Nat} {x : Str} {pos : Pos} (hN : X.N[i]? = some x) (hv : Vis X.env.scope x) (hd : (x == ("__debug__" : Str)) = false := by decide) (hcd : (x == ("__classdict__" : Str)) = false := by decide) : DE X W (.Name x pos) (eVar i) := by
  refine ⟨tVar i, pe_var hN hv hd hcd, fun κ ρ S σ H m Q rl re h => ?_⟩
  unfold eVar at h
  split at h
  · rename_i d e
    obtain ⟨v, e1, q⟩ := pairGet re e
    obtain ⟨u, rfl, r⟩ := q d rfl
    exact ⟨u, e1, h.ok' .refl rl r⟩
  · exact h.elim
theorem de_int {i : Int} {j : Nat} {pos : Pos} : DE X W (.Constant (.int i) j pos) (eC (.int i)) :=
  ⟨_, pe_int, fun κ ρ S σ H m Q rl re h => h.ok' .refl rl (by show RP _ _ _ _ _; rw [RP])⟩
theorem de_bl {b : Bool} {j : Nat} {pos : Pos} : DE X W (.Constant (.bool b) j pos) (eC (.bool b)) :=
  ⟨_, pe_bl, fun κ ρ S σ H m Q rl re h => h.ok' .refl rl (by show RP _ _ _ _ _; rw [RP])⟩
theorem de_non {j : Nat} {pos : Pos} : DE X W (.Constant .none j pos) (eC .none) :=
  ⟨_, pe_non, fun κ ρ S σ H m Q rl re h => h.ok' .refl rl (by show RP _ _ _ _ _; rw [RP])⟩
theorem de_str {x : Str} {j : Nat} {pos : Pos} : DE X W (.Constant (.str x) j pos) (eC (.str x)) :=
  ⟨_, pe_str, fun κ ρ S σ H m Q rl re h => h.ok' .refl rl (by show RP _ _ _ _ _; rw [RP])⟩
/-! shapes of data -/
theorem RD.int {i : Int} {v : V} (h : RD (KX X κ) m S H (.int i) v) : v = .int i := by
  have h : RP _ _ _ _ _ := h
  rw [RP] at h; exact h
theorem RD.bl {i : Bool} {v : V} (h : RD (KX X κ) m S H (.bl i) v) : v = .bl i := by
  have h : RP _ _ _ _ _ := h
  rw [RP] at h; exact h
theorem RD.str {i : Str} {v : V} (h : RD (KX X κ) m S H (.str i) v) : v = .str i := by
  have h : RP _ _ _ _ _ := h
  rw [RP] at h; exact h
theorem RD.non {v : V} (h : RD (KX X κ) m S H .non v) : v = .non := by
  have h : RP _ _ _ _ _ := h
  rw [RP] at h; exact h
theorem RD.int_ {i : Int} : RD (KX X κ) m S H (.int i) (.int i) := by show RP _ _ _ _ _; rw [RP]
theorem RD.bl_ {i : Bool} : RD (KX X κ) m S H (.bl i) (.bl i) := by show RP _ _ _ _ _; rw [RP]
theorem RD.str_ {i : Str} : RD (KX X κ) m S H (.str i) (.str i) := by show RP _ _ _ _ _; rw [RP]
theorem RD.non_ : RD (KX X κ) m S H .non .non := by show RP _ _ _ _ _; rw [RP]
theorem RD.tup {l : List PyData} {v : V} (h : RD (KX X κ) m S H (.tup l) v) : ∃ a vs, v = .ref a ∧ SqT X.K H a vs ∧ RDs (KX X κ) m S H (l.map .p) vs := by
  have h : RP _ _ _ _ _ := h
  rw [RP] at h
  obtain ⟨a, vs, e, h1, h2⟩ := h
  exact ⟨a, vs, e, .of h1, RDs_p.mpr h2⟩
theorem RD.lst {l : List PyData} {v : V} (h : RD (KX X κ) m S H (.lst l) v) : ∃ a vs, v = .ref a ∧ H a = some (.lst vs) ∧ RDs (KX X κ) m S H (l.map .p) vs := by
  have h : RP _ _ _ _ _ := h
  rw [RP] at h
  obtain ⟨a, vs, e, h1, _, h2⟩ := h
  exact ⟨a, vs, e, h1, RDs_p.mpr h2⟩
/-- plain data of a thing -/
def pOf (S : Sto) : D → Option PyData
  | .p d => some d
  | _ => none
def pAll : List D → Option (List PyData)
  | [] => some []
  | .p d :: l => (pAll l).map (d :: ·)
  | _ :: _ => none
theorem pAll_map : ∀ l : List PyData, pAll (l.map .p) = some l
  | [] => rfl
  | d :: l => by simp [pAll, pAll_map l]
theorem pAll_some : ∀ {l : List D} {r : List PyData}, pAll l = some r → l = r.map .p
  | [], r, h => by simp [pAll] at h; subst h; rfl
  | .p d :: l, r, h => by
    simp only [pAll, Option.map_eq_some_iff] at h
    obtain ⟨r', h1, rfl⟩ := h
    rw [pAll_some h1]
    rfl
  | .ob _ :: _, r, h => by simp [pAll] at h
  | .scr _ :: _, r, h => by simp [pAll] at h
  | .xc _ _ _ :: _, r, h => by simp [pAll] at h
/-- the items of a list that is read -/
def lItems (S : Sto) : D → Option (List D)
  | .p (.list l) => some (l.map .p)
  | .ob n => match S[n]? with
    | some (.lst l) => some l
    | some (.fz l) => some (l.map .p)
    | _ => none
  | .scr ns => some (ns.map .int)
  | _ => none
def tItems : D → Option (List D)
  | .p (.tuple l) => some (l.map .p)
  | _ => none
theorem RDs_ints : ∀ ns : List Int, RDs (KX X κ) m S H (ns.map D.int) (ns.map V.int)
  | [] => .nil
  | i :: ns => .cons RD.int_ (RDs_ints ns)
theorem RD.items {d : D} {v : V} {l : List D} (r : Rl (KX X κ) m S H) (h : RD (KX X κ) m S H d v) (e : lItems S d = some l) : ∃ a vs, v = .ref a ∧ SqL X.K H a vs ∧ RDs (KX X κ) m S H l vs := by
  unfold lItems at e
  split at e
  · cases e
    obtain ⟨a, vs, rfl, h1, h2⟩ := h.lst
    exact ⟨a, vs, rfl, .of h1, h2⟩
  · rename_i n
    obtain ⟨a, em, rfl⟩ := h
    obtain ⟨o, es, ro⟩ := r.at em
    split at e
    · rename_i q
      rw [q] at es; cases es; cases e
      obtain ⟨vs, h1, h2⟩ := ro
      exact ⟨a, vs, rfl, .of h1, h2⟩
    · rename_i q
      rw [q] at es; cases es; cases e
      obtain ⟨vs, h1, h2⟩ := ro
      exact ⟨a, vs, rfl, .of h1, RDs_p.mpr h2⟩
    · cases e
  · rename_i ns
    cases e
    obtain ⟨a, rfl, h⟩ := h
    refine ⟨a, ns.map V.int, rfl, ?_, RDs_ints ns⟩
    rcases h with ⟨o, h⟩ | h
    · exact .inl (.inr ⟨o, h⟩)
    · rcases h with h | h
      · rcases h with h | ⟨_, h⟩ <;> cases h
      · exact .inr h
  · cases e
theorem RD.titems {d : D} {v : V} {l : List D} (h : RD (KX X κ) m S H d v) (e : tItems d = some l) : ∃ a vs, v = .ref a ∧ SqT X.K H a vs ∧ RDs (KX X κ) m S H l vs := by
  unfold tItems at e
  split at e
  · cases e
    exact h.tup
  · cases e
end
end DL

namespace DL
open PySem PySem.Spec PyProof.Rows L2
section
variable {X : Cx} {W : WX} {m m1 : List Addr} {S S1 : Sto} {H H1 : Hp} {σ : St} {ρ : Env} {κ : Addr → Prop}
/-! ### new things -/
theorem not_lv (r : Rl (KX X κ) m S H) {p : Addr} (hp : H p = none) : ¬ lv (KX X κ) m S p := fun z => by
  obtain ⟨u, q, _⟩ := lvAddr r z
  rw [hp] at q; cases q
theorem newL (r : Rl (KX X κ) m S H) {p : Addr} (hp : H p = none) {l : List PyData} {vs : List V} (h : RPs (KX X κ) H (lv (KX X κ) m S) l vs) : RD (KX X κ) m S (upd H p (.lst vs)) (.lst l) (.ref p) := by
  show RP _ _ _ _ _
  rw [RP]
  exact ⟨p, vs, rfl, upd_same, not_lv r hp, RPs.nx (Nx.new r hp) h⟩
theorem newT (r : Rl (KX X κ) m S H) {p : Addr} (hp : H p = none) {l : List PyData} {vs : List V} (h : RPs (KX X κ) H (lv (KX X κ) m S) l vs) : RD (KX X κ) m S (upd H p (.tup vs)) (.tup l) (.ref p) := by
  show RP _ _ _ _ _
  rw [RP]
  exact ⟨p, vs, rfl, upd_same, RPs.nx (Nx.new r hp) h⟩
theorem RDs_all {ds : List D} {l : List PyData} {vs : List V} (h : RDs (KX X κ) m S H ds vs) (e : pAll ds = some l) : RPs (KX X κ) H (lv (KX X κ) m S) l vs := by
  rw [pAll_some e] at h
  exact RDs_p.mp h
theorem RPs_app {l l' : List PyData} {vs vs' : List V} {L : Addr → Prop} (h : RPs (KX X κ) H L l vs) (h' : RPs (KX X κ) H L l' vs') : RPs (KX X κ) H L (l ++ l') (vs ++ vs') :=
  RPs_iff.mpr (pairApp (RPs_iff.mp h) (RPs_iff.mp h'))
theorem RPs_len {l : List PyData} {vs : List V} {L : Addr → Prop} (h : RPs (KX X κ) H L l vs) : l.length = vs.length := pairLen (RPs_iff.mp h)
/-- a list at rest or one that could rest -/
def vList (S : Sto) : D → Option (List PyData)
  | .p (.list l) => some l
  | .ob n => match S[n]? with
    | some (.lst l) => pAll l
    | some (.fz l) => some l
    | _ => none
  | _ => none
theorem RD.vlist {d : D} {v : V} {l : List PyData} (r : Rl (KX X κ) m S H) (h : RD (KX X κ) m S H d v) (e : vList S d = some l) : ∃ a vs, v = .ref a ∧ H a = some (.lst vs) ∧ RPs (KX X κ) H (lv (KX X κ) m S) l vs := by
  unfold vList at e
  split at e
  · cases e
    obtain ⟨a, vs, rfl, h1, h2⟩ := h.lst
    exact ⟨a, vs, rfl, h1, RDs_p.mp h2⟩
  · rename_i n
    obtain ⟨a, em, rfl⟩ := h
    obtain ⟨o, es, ro⟩ := r.at em
    split at e
    · rename_i q
      rw [q] at es; cases es
      obtain ⟨vs, h1, h2⟩ := ro
      exact ⟨a, vs, rfl, h1, RDs_all h2 e⟩
    · rename_i q
      rw [q] at es; cases es; cases e
      obtain ⟨vs, h1, h2⟩ := ro
      exact ⟨a, vs, rfl, h1, h2⟩
    · cases e
  · cases e

/-! ### operators by values -/
def OpD (X : Cx) (W : WX) (f : Value → Value → Sem Value) (g : D → D → Sto → Rs D) : Prop :=
  ∃ r : R2, OpR X f r ∧ ∀ κ x y vx vy m S H σ Q, Rl (KX X κ) m S H → RD (KX X κ) m S H x vx → RD (KX X κ) m S H y vy → Post X κ W m S H σ (RD (KX X κ)) (g x y S) Q → r vx vy H Q
def eBin (g : D → D → Sto → Rs D) (fa fb : ED) : ED := fun ρ S => (fa ρ S).bind fun x S1 => (fb ρ S1).bind fun y S2 => g x y S2
theorem imp_bin {g : D → D → Sto → Rs D} {r : R2} {ta tb : TE} {fa fb : ED} (hr : ∀ κ x y vx vy m S H σ Q, Rl (KX X κ) m S H → RD (KX X κ) m S H x vx → RD (KX X κ) m S H y vy → Post X κ W m S H σ (RD (KX X κ)) (g x y S) Q → r vx vy H Q)
    (ha : Imp X W RD ta fa) (hb : Imp X W RD tb fb) : Imp X W RD (tOp r ta tb) (eBin g fa fb) := by
  intro κ ρ S σ H m Q rl re h
  refine ha.seq rl re h fun d S1 v H1 m1 x1 rl1 re1 r1 h1 => ?_
  refine hb.seq rl1 re1 h1 fun d2 S2 v2 H2 m2 x2 rl2 re2 r2 h2 => ?_
  exact hr κ d d2 v v2 m2 S2 H2 σ Q rl2 (r1.nx x2) r2 h2
theorem de_bin {op : Operator} {a b : Expr} {pos : Pos} {g : D → D → Sto → Rs D} {fa fb : ED} (ho : OpD X W (binaryOp op) g) (ha : DE X W a fa) (hb : DE X W b fb) : DE X W (.BinOp a op b pos) (eBin g fa fb) := by
  obtain ⟨r, o, hr⟩ := ho
  obtain ⟨ta, pa, ia⟩ := ha
  obtain ⟨tb, pb, ib⟩ := hb
  exact ⟨_, pe_op o pa pb, imp_bin hr ia ib⟩

def gAdd : D → D → Sto → Rs D := fun x y S => match x, y with
  | .p (.int i), .p (.int j) => .ok (.int (i + j)) S
  | .p (.str a), .p (.str b) => if a.length + b.length ≤ sizeLine then .ok (.str (a ++ b)) S else .st
  | .p (.tuple a), .p (.tuple b) => if a.length + b.length ≤ sizeLine then .ok (.tup (a ++ b)) S else .st
  | x, y => match vList S x, vList S y with
    | some a, some b => if a.length + b.length ≤ sizeLine then .ok (.lst (a ++ b)) S else .st
    | _, _ => .st
theorem RD.tup' {l : List PyData} {v : V} (h : RD (KX X κ) m S H (.tup l) v) : ∃ a vs, v = .ref a ∧ H a = some (.tup vs) ∧ RPs (KX X κ) H (lv (KX X κ) m S) l vs := by
  have h : RP _ _ _ _ _ := h
  rw [RP] at h
  exact h
theorem RPs_nil {l : List PyData} {vs : List V} {L : Addr → Prop} (h : RPs (KX X κ) H L l vs) : vs = [] ↔ l = [] := by
  have := RPs_len h
  constructor
  · rintro rfl; exact List.length_eq_zero_iff.mp this
  · rintro rfl; exact List.length_eq_zero_iff.mp this.symm
theorem tup_of {l : List PyData} {a : Addr} {vs : List V} (h : H a = some (.tup vs)) (h2 : RPs (KX X κ) H (lv (KX X κ) m S) l vs) : RD (KX X κ) m S H (.tup l) (.ref a) := by
  show RP _ _ _ _ _
  rw [RP]
  exact ⟨a, vs, rfl, h, h2⟩
theorem od_add : OpD X W (binaryOp .Add) gAdd := by
  refine ⟨_, OpR.or op_add (OpR.or op_add_str (OpR.or op_catA op_cat)), fun κ x y vx vy m S H σ Q rl rx ry h => ?_⟩
  unfold gAdd at h
  split at h
  · exact .inl ⟨_, _, rx.int, ry.int, h.ok' .refl rl RD.int_⟩
  · split at h
    · rename_i hl
      exact .inr (.inl ⟨_, _, rx.str, ry.str, hl, h.ok' .refl rl RD.str_⟩)
    · exact h.elim
  · rename_i a b
    split at h
    · rename_i hl
      obtain ⟨p, xs, rfl, hx, rx⟩ := rx.tup'
      obtain ⟨q, ys, rfl, hy, ry⟩ := ry.tup'
      refine .inr (.inr (.inl ⟨p, q, xs, ys, rfl, rfl, .of hx, .of hy, by rw [← RPs_len rx, ← RPs_len ry]; exact hl, fun e => ?_, fun e1 e2 => ?_, fun _ _ z hz => ?_⟩))
      · have : a = [] := (RPs_nil rx).mp e
        subst this
        exact h.ok' .refl rl (tup_of hy ry)
      · have : b = [] := (RPs_nil ry).mp e2
        subst this
        rw [List.append_nil] at h
        exact h.ok' .refl rl (tup_of hx rx)
      · exact h.ok' (.new rl hz) (rl.new hz) (newT rl hz (RPs_app rx ry))
    · exact h.elim
  · split at h
    · rename_i a b ea eb
      split at h
      · rename_i hl
        obtain ⟨p, xs, rfl, hx, rx⟩ := rx.vlist rl ea
        obtain ⟨q, ys, rfl, hy, ry⟩ := ry.vlist rl eb
        exact .inr (.inr (.inr ⟨p, q, xs, ys, rfl, rfl, hx, hy, by rw [← RPs_len rx, ← RPs_len ry]; exact hl, fun z hz => h.ok' (.new rl hz) (rl.new hz) (newL rl hz (RPs_app rx ry))⟩))
      · exact h.elim
    · exact h.elim
/-- two ints -/
def gInt (C : Int → Int → Bool) (f : Int → Int → Int) : D → D → Sto → Rs D := fun x y S => match x, y with
  | .p (.int i), .p (.int j) => if C i j = true then .ok (.int (f i j)) S else .st
  | _, _ => .st
theorem od_int {op : Value → Value → Sem Value} {C : Int → Int → Prop} {f : Int → Int → Int} {c : Int → Int → Bool} (h : OpR X op (rI C fun i j => .int (f i j))) (hc : ∀ i j, c i j = true → C i j) : OpD X W op (gInt c f) := by
  refine ⟨_, h, fun κ x y vx vy m S H σ Q rl rx ry h => ?_⟩
  unfold gInt at h
  split at h
  · split at h
    · rename_i e
      exact ⟨_, _, rx.int, ry.int, hc _ _ e, h.ok' .refl rl RD.int_⟩
    · exact h.elim
  · exact h.elim
def gSub : D → D → Sto → Rs D := gInt (fun _ _ => true) fun i j => i - j
def gMul : D → D → Sto → Rs D := gInt (fun i j => decide (i.natAbs < 2 ^ 64) || decide (j.natAbs < 2 ^ 64)) fun i j => i * j
def gMod : D → D → Sto → Rs D := gInt (fun _ j => decide (0 < j)) fun i j => i % j
def gFdv : D → D → Sto → Rs D := gInt (fun _ j => decide (0 < j ∧ j < 1073741824)) fun i j => i / j
def gPow : D → D → Sto → Rs D := gInt (fun i j => decide (0 ≤ j ∧ j ≤ 1000000 ∧ i.natAbs < 2 ^ 64)) fun i j => i ^ j.toNat
theorem od_sub : OpD X W (binaryOp .Sub) gSub := by
  refine ⟨_, op_sub, fun κ x y vx vy m S H σ Q rl rx ry h => ?_⟩
  unfold gSub gInt at h
  split at h
  · rw [if_pos rfl] at h
    exact ⟨_, _, rx.int, ry.int, h.ok' .refl rl RD.int_⟩
  · exact h.elim
theorem od_mul : OpD X W (binaryOp .Mult) gMul := od_int op_mul fun i j h => by
  simp only [Bool.or_eq_true, decide_eq_true_eq] at h
  rcases h with h | h
  · exact .inl ⟨by omega, by omega⟩
  · exact .inr ⟨by omega, by omega⟩
theorem od_mod : OpD X W (binaryOp .Mod) gMod := od_int op_mod fun i j h => of_decide_eq_true h
theorem od_fdv : OpD X W (binaryOp .FloorDiv) gFdv := od_int op_fdiv fun i j h => (of_decide_eq_true h : 0 < j ∧ j < 1073741824)
theorem od_pow : OpD X W (binaryOp .Pow) gPow := od_int op_pow fun i j h => (of_decide_eq_true h : 0 ≤ j ∧ j ≤ 1000000 ∧ i.natAbs < 2 ^ 64)
/-- -x -/
def eNeg (fa : ED) : ED := fun ρ S => (fa ρ S).bind fun x S1 => match x with
  | .p (.int i) => .ok (.int (-i)) S1
  | _ => .st
theorem de_neg {a : Expr} {pos : Pos} {fa : ED} (ha : DE X W a fa) : DE X W (.UnaryOp .USub a pos) (eNeg fa) := by
  obtain ⟨ta, pa, ia⟩ := ha
  refine ⟨_, pe_un un_neg pa, fun κ ρ S σ H m Q rl re h => ?_⟩
  refine ia.seq rl re h fun d S1 v H1 m1 x1 rl1 re1 r1 h1 => ?_
  split at h1
  · exact ⟨_, r1.int, h1.ok' .refl rl1 RD.int_⟩
  · exact h1.elim

/-! ### comparisons -/
def scalD : PyData → PyData → Bool
  | .none, .none => true | .none, .int _ => true | .int _, .none => true | .none, .bool _ => true | .bool _, .none => true | .none, .str _ => true | .str _, .none => true
  | .int _, .int _ => true | .bool _, .bool _ => true | .str _, .str _ => true
  | .int _, .str _ => true | .str _, .int _ => true | .bool _, .str _ => true | .str _, .bool _ => true
  | _, _ => false
/-- what a thing is as plain data, as it stands -/
def pNow (S : Sto) : D → Option PyData
  | .p d => some d
  | x => (vList S x).map .list
theorem RD.now {d : D} {v : V} {p : PyData} (r : Rl (KX X κ) m S H) (h : RD (KX X κ) m S H d v) (e : pNow S d = some p) : Dp X.K H v p := by
  unfold pNow at e
  split at e
  · cases e; exact RP.dp _ _ h
  · simp only [Option.map_eq_some_iff] at e
    obtain ⟨l, e, rfl⟩ := e
    obtain ⟨a, vs, rfl, h1, h2⟩ := h.vlist r e
    exact .lst (.of h1) (RPs.dp _ _ h2)
def gEq (neg : Bool) : D → D → Sto → Rs D := fun x y S => match pNow S x, pNow S y with
  | some a, some b => if scalD a b = true then .ok (.bl (neg ^^ PyData.eqv a b)) S else
      if SeqAt.shaped a = true ∧ SeqAt.shaped b = true then .ok (.bl (neg ^^ PyData.eqv a b)) S else .st
  | _, _ => .st
theorem scal_now {a b : PyData} {va vb : V} (ha : Dp X.K H va a) (hb : Dp X.K H vb b) (h : scalD a b = true) : scal va vb = true ∧ decide (va = vb) = PyData.eqv a b := by
  cases ha <;> cases hb <;> first
    | (exact absurd (show false = true from h) Bool.false_ne_true)
    | (refine ⟨rfl, ?_⟩; simp [PyData.eqv, Bool.beq_eq_decide_eq]; done)
    | (refine ⟨rfl, ?_⟩; simp only [PyData.eqv]; rw [Bool.eq_iff_iff]; simp)
theorem od_eq (hu : X.A.units + 64 < cLine) : OpD X W (compareOp .Eq) (gEq false) := by
  refine ⟨_, OpR.or op_eq (op_eqD hu), fun κ x y vx vy m S H σ Q rl rx ry h => ?_⟩
  unfold gEq at h
  split at h
  · rename_i a b ea eb
    have da := rx.now rl ea
    have db := ry.now rl eb
    split at h
    · rename_i e
      obtain ⟨h1, h2⟩ := scal_now da db e
      exact .inl ⟨h1, by rw [h2]; exact h.ok' .refl rl (by rw [Bool.false_xor]; exact RD.bl_)⟩
    · split at h
      · rename_i e
        exact .inr ⟨a, b, da, db, e.1, e.2, h.ok' .refl rl (by rw [Bool.false_xor]; exact RD.bl_)⟩
      · exact h.elim
  · exact h.elim
theorem od_ne (hu : X.A.units + 64 < cLine) : OpD X W (compareOp .NotEq) (gEq true) := by
  refine ⟨_, OpR.or op_ne (op_neD hu), fun κ x y vx vy m S H σ Q rl rx ry h => ?_⟩
  unfold gEq at h
  split at h
  · rename_i a b ea eb
    have da := rx.now rl ea
    have db := ry.now rl eb
    split at h
    · rename_i e
      obtain ⟨h1, h2⟩ := scal_now da db e
      exact .inl ⟨h1, by rw [h2]; exact h.ok' .refl rl (by rw [Bool.true_xor]; exact RD.bl_)⟩
    · split at h
      · rename_i e
        exact .inr ⟨a, b, da, db, e.1, e.2, h.ok' .refl rl (by rw [Bool.true_xor]; exact RD.bl_)⟩
      · exact h.elim
  · exact h.elim
/-- two ints (or flat tuples of ints), in order -/
def intsOf : List PyData → Option (List Int)
  | [] => some []
  | .int i :: l => (intsOf l).map (i :: ·)
  | _ :: _ => none
def gOrd (f : Int → Int → Bool) (g : List Int → List Int → Bool) : D → D → Sto → Rs D := fun x y S => match x, y with
  | .p (.int i), .p (.int j) => .ok (.bl (f i j)) S
  | .p (.tuple a), .p (.tuple b) => match intsOf a, intsOf b with
    | some is, some js => .ok (.bl (g is js)) S
    | _, _ => .st
  | _, _ => .st
def gOrd0 (f : Int → Int → Bool) : D → D → Sto → Rs D := fun x y S => match x, y with
  | .p (.int i), .p (.int j) => .ok (.bl (f i j)) S
  | _, _ => .st
theorem od_ord0 {op : Value → Value → Sem Value} {f : Int → Int → Bool} (h : OpR X op (rI0 fun i j => .bl (f i j))) : OpD X W op (gOrd0 f) := by
  refine ⟨_, h, fun κ x y vx vy m S H σ Q rl rx ry h => ?_⟩
  unfold gOrd0 at h
  split at h
  · exact ⟨_, _, rx.int, ry.int, h.ok' .refl rl RD.bl_⟩
  · exact h.elim
def gLt := gOrd0 fun i j => decide (i < j)
def gLe := gOrd0 fun i j => decide (i ≤ j)
def gGt := gOrd0 fun i j => decide (j < i)
def gGe := gOrd0 fun i j => decide (j ≤ i)
theorem od_lt : OpD X W (compareOp .Lt) gLt := od_ord0 op_lt
theorem od_le : OpD X W (compareOp .LtE) gLe := od_ord0 op_le
theorem od_gt : OpD X W (compareOp .Gt) gGt := od_ord0 op_gt
theorem od_ge : OpD X W (compareOp .GtE) gGe := od_ord0 op_ge
/-- is None -/
def isNoneD : PyData → Bool
  | .none => true
  | _ => false
def gIsN (neg : Bool) : D → D → Sto → Rs D := fun x y S => match x, y with
  | .p a, .p .none => .ok (.bl (neg ^^ isNoneD a)) S
  | _, _ => .st
theorem isN_of {a : PyData} {v : V} (h : RD (KX X κ) m S H (.p a) v) : decide (v = .non) = isNoneD a := by
  have h := RP.dp _ _ h
  cases h <;> simp [isNoneD]
theorem od_is : OpD X W (compareOp .Is) (gIsN false) := by
  refine ⟨_, op_isN, fun κ x y vx vy m S H σ Q rl rx ry h => ?_⟩
  unfold gIsN at h
  split at h
  · exact ⟨ry.non, by rw [isN_of rx]; exact h.ok' .refl rl (by rw [Bool.false_xor]; exact RD.bl_)⟩
  · exact h.elim
theorem od_isnot : OpD X W (compareOp .IsNot) (gIsN true) := by
  refine ⟨_, op_notN, fun κ x y vx vy m S H σ Q rl rx ry h => ?_⟩
  unfold gIsN at h
  split at h
  · exact ⟨ry.non, by rw [isN_of rx]; exact h.ok' .refl rl (by rw [Bool.true_xor]; exact RD.bl_)⟩
  · exact h.elim
theorem de_cmp {op : CmpOp} {a b : Expr} {pos : Pos} {g : D → D → Sto → Rs D} {fa fb : ED} (ho : OpD X W (compareOp op) g) (ha : DE X W a fa) (hb : DE X W b fb) (hm : behindInMarks op b = false) : DE X W (.Compare a [op] [b] pos) (eBin g fa fb) := by
  obtain ⟨r, o, hr⟩ := ho
  obtain ⟨ta, pa, ia⟩ := ha
  obtain ⟨tb, pb, ib⟩ := hb
  exact ⟨_, pe_cmpR o pa pb hm, imp_bin hr ia ib⟩
/-- a bool value as a test -/
def asB (f : ED) : BD := fun ρ S => (f ρ S).bind fun x S1 => match x with
  | .p (.bool b) => .ok b S1
  | _ => .st
theorem imp_asB {t : TE} {f : ED} (h : Imp X W RD t f) : Imp X W RB (fun σ H (Q : Bool → Hp → Prop) => t σ H fun x H1 => ∃ k, x = .bl k ∧ Q k H1) (asB f) := by
  intro κ ρ S σ H m Q rl re hh
  refine h.seq rl re hh fun d S1 v H1 m1 x1 rl1 re1 r1 h1 => ?_
  split at h1
  · exact ⟨_, r1.bl, h1.ok' .refl rl1 rfl⟩
  · exact h1.elim
theorem dt_cmp {op : CmpOp} {a b : Expr} {pos : Pos} {g : D → D → Sto → Rs D} {fa fb : ED} (ho : OpD X W (compareOp op) g) (ha : DE X W a fa) (hb : DE X W b fb) (hm : behindInMarks op b = false) : DT X W (.Compare a [op] [b] pos) (asB (eBin g fa fb)) := by
  obtain ⟨r, o, hr⟩ := ho
  obtain ⟨ta, pa, ia⟩ := ha
  obtain ⟨tb, pb, ib⟩ := hb
  exact ⟨_, pt_cmpR o pa pb hm, imp_asB (imp_bin hr ia ib)⟩
def eChain (g g' : D → D → Sto → Rs D) (fa fb fc : ED) : ED := fun ρ S => (fa ρ S).bind fun x S1 => (fb ρ S1).bind fun y S2 => (g x y S2).bind fun z S3 => match z with
  | .p (.bool true) => (fc ρ S3).bind fun w S4 => g' y w S4
  | .p (.bool false) => .ok (.bl false) S3
  | _ => .st
theorem Post.seq' {r : R2} {g : D → D → Sto → Rs D} {x y : D} {vx vy : V} {k : D → Sto → Rs D} {Q : VK} {C : VK}
    (hr : ∀ Q, Post X κ W m S H σ (RD (KX X κ)) (g x y S) Q → r vx vy H Q) (re : RE (KX X κ) m S H ρ σ) (h : Post X κ W m S H σ (RD (KX X κ)) ((g x y S).bind k) Q)
    (hk : ∀ d S1 v H1 m1, Nx (KX X κ) m S H m1 S1 H1 → Rl (KX X κ) m1 S1 H1 → RE (KX X κ) m1 S1 H1 ρ σ → RD (KX X κ) m1 S1 H1 d v → Post X κ W m1 S1 H1 σ (RD (KX X κ)) (k d S1) Q → C v H1) : r vx vy H C := by
  refine hr C ?_
  cases e : g x y S with
  | st => rw [e] at h; exact h
  | ok d S1 =>
    rw [e] at h
    exact fun v H1 m1 x rl1 r1 => hk d S1 v H1 m1 x rl1 (re.nx x) r1 (Post.nx x h)
  | ex y S1 =>
    rw [e] at h
    exact h
theorem imp_chain {g g' : D → D → Sto → Rs D} {r r' : R2} {ta tb tc : TE} {fa fb fc : ED} (hr : ∀ κ x y vx vy m S H σ Q, Rl (KX X κ) m S H → RD (KX X κ) m S H x vx → RD (KX X κ) m S H y vy → Post X κ W m S H σ (RD (KX X κ)) (g x y S) Q → r vx vy H Q)
    (hr' : ∀ κ x y vx vy m S H σ Q, Rl (KX X κ) m S H → RD (KX X κ) m S H x vx → RD (KX X κ) m S H y vy → Post X κ W m S H σ (RD (KX X κ)) (g' x y S) Q → r' vx vy H Q)
    (ha : Imp X W RD ta fa) (hb : Imp X W RD tb fb) (hc : Imp X W RD tc fc) : Imp X W RD (tChain r r' ta tb tc) (eChain g g' fa fb fc) := by
  intro κ ρ S σ H m Q rl re h
  refine ha.seq rl re h fun d S1 v H1 m1 x1 rl1 re1 r1 h1 => ?_
  refine hb.seq rl1 re1 h1 fun d2 S2 v2 H2 m2 x2 rl2 re2 r2 h2 => ?_
  refine Post.seq' (fun Q h => hr κ d d2 v v2 m2 S2 H2 σ Q rl2 (r1.nx x2) r2 h) re2 h2 fun d3 S3 v3 H3 m3 x3 rl3 re3 r3 h3 => ?_
  split at h3
  · refine ⟨true, r3.bl, ?_⟩
    rw [if_pos rfl]
    refine hc.seq rl3 re3 h3 fun d4 S4 v4 H4 m4 x4 rl4 re4 r4 h4 => ?_
    exact hr' κ d2 d4 v2 v4 m4 S4 H4 σ Q rl4 ((r2.nx x3).nx x4) r4 h4
  · refine ⟨false, r3.bl, ?_⟩
    rw [if_neg Bool.false_ne_true]
    exact h3.ok' .refl rl3 RD.bl_
  · exact h3.elim
theorem de_chain {op op' : CmpOp} {a b c : Expr} {pos : Pos} {g g' : D → D → Sto → Rs D} {fa fb fc : ED} (ho : OpD X W (compareOp op) g) (ho' : OpD X W (compareOp op') g') (ha : DE X W a fa) (hb : DE X W b fb) (hc : DE X W c fc) (hl : lastMarks [op, op'] [b, c] = false := by rfl) :
    DE X W (.Compare a [op, op'] [b, c] pos) (eChain g g' fa fb fc) := by
  obtain ⟨r, o, hr⟩ := ho
  obtain ⟨r', o', hr'⟩ := ho'
  obtain ⟨ta, pa, ia⟩ := ha
  obtain ⟨tb, pb, ib⟩ := hb
  obtain ⟨tc, pc, ic⟩ := hc
  exact ⟨_, pe_chain o o' pa pb pc hl, imp_chain hr hr' ia ib ic⟩
theorem dt_chain {op op' : CmpOp} {a b c : Expr} {pos : Pos} {g g' : D → D → Sto → Rs D} {fa fb fc : ED} (ho : OpD X W (compareOp op) g) (ho' : OpD X W (compareOp op') g') (ha : DE X W a fa) (hb : DE X W b fb) (hc : DE X W c fc) (hl : lastMarks [op, op'] [b, c] = false := by rfl) :
    DT X W (.Compare a [op, op'] [b, c] pos) (asB (eChain g g' fa fb fc)) := by
  obtain ⟨r, o, hr⟩ := ho
  obtain ⟨r', o', hr'⟩ := ho'
  obtain ⟨ta, pa, ia⟩ := ha
  obtain ⟨tb, pb, ib⟩ := hb
  obtain ⟨tc, pc, ic⟩ := hc
  exact ⟨_, pt_chain o o' pa pb pc hl, imp_asB (imp_chain hr hr' ia ib ic)⟩
end
end DL

namespace DL
open PySem PySem.Spec PyProof.Rows L2
section
variable {X : Cx} {W : WX} {m m1 : List Addr} {S S1 : Sto} {H H1 : Hp} {σ : St} {ρ : Env} {κ : Addr → Prop}
/-! ### and, or, not, a if c else b -/
variable {a b c : Expr} {pos : Pos} {fa fb fc : ED} {ba bb : BD} {rest : List Expr}
def bAnd (f g : BD) : BD := fun ρ S => (f ρ S).bind fun x S1 => if x = true then g ρ S1 else .ok false S1
def bOr (f g : BD) : BD := fun ρ S => (f ρ S).bind fun x S1 => if x = true then .ok true S1 else g ρ S1
def bNot (f : BD) : BD := fun ρ S => (f ρ S).bind fun x S1 => .ok (!x) S1
theorem DW.pt (h : DW X W a ba) : DT X W a ba := by
  obtain ⟨t, p, i⟩ := h
  exact ⟨t, p.pt, i⟩
theorem dw_and1 (ha : DT X W a ba) : DW X W (.BoolOp .And [a] pos) ba := by
  obtain ⟨t, p, i⟩ := ha
  exact ⟨t, pw_and1 p, i⟩
theorem dw_or1 (ha : DT X W a ba) : DW X W (.BoolOp .Or [a] pos) ba := by
  obtain ⟨t, p, i⟩ := ha
  exact ⟨t, pw_or1 p, i⟩
theorem dw_and (ha : DT X W a ba) (hb : DW X W (.BoolOp .And (b :: rest) pos) bb) : DW X W (.BoolOp .And (a :: b :: rest) pos) (bAnd ba bb) := by
  obtain ⟨ta, pa, ia⟩ := ha
  obtain ⟨tb, pb, ib⟩ := hb
  refine ⟨_, pw_and pa pb, fun κ ρ S σ H m Q rl re h => ?_⟩
  refine ia.seq rl re h fun d S1 v H1 m1 x1 rl1 re1 r1 h1 => ?_
  have r1 : d = v := r1
  subst r1
  cases d with
  | true => exact ib κ ρ S1 σ H1 m1 Q rl1 re1 h1
  | false => exact h1.ok' .refl rl1 rfl
theorem dw_or (ha : DT X W a ba) (hb : DW X W (.BoolOp .Or (b :: rest) pos) bb) : DW X W (.BoolOp .Or (a :: b :: rest) pos) (bOr ba bb) := by
  obtain ⟨ta, pa, ia⟩ := ha
  obtain ⟨tb, pb, ib⟩ := hb
  refine ⟨_, pw_or pa pb, fun κ ρ S σ H m Q rl re h => ?_⟩
  refine ia.seq rl re h fun d S1 v H1 m1 x1 rl1 re1 r1 h1 => ?_
  have r1 : d = v := r1
  subst r1
  cases d with
  | false => exact ib κ ρ S1 σ H1 m1 Q rl1 re1 h1
  | true => exact h1.ok' .refl rl1 rfl
theorem dt_not (ha : DT X W a ba) : DT X W (.UnaryOp .Not a pos) (bNot ba) := by
  obtain ⟨ta, pa, ia⟩ := ha
  refine ⟨_, pt_not pa, fun κ ρ S σ H m Q rl re h => ?_⟩
  refine ia.seq rl re h fun d S1 v H1 m1 x1 rl1 re1 r1 h1 => ?_
  have r1 : d = v := r1
  subst r1
  exact h1.ok' .refl rl1 rfl
/-- a thing's truth -/
def truD (S : Sto) : D → Option Bool
  | .p .none => some false
  | .p (.bool b) => some b
  | .p (.int i) => some (i != 0)
  | .p (.str x) => if x.length ≤ sizeLine then some (((x.length : Nat) : Int) != 0) else none
  | .p (.tuple l) => some (!l.isEmpty)
  | d => (lItems S d).map fun l => !l.isEmpty
def bTru (f : ED) : BD := fun ρ S => (f ρ S).bind fun x S1 => match truD S1 x with
  | some b => .ok b S1
  | none => .st
theorem pairEmpty {α β : Type} {F : α → β → Prop} {l : List α} {r : List β} (q : Paired F l r) : (!l.isEmpty) = (!r.isEmpty) := by
  cases q <;> rfl
theorem mapEmpty {α β : Type} (f : α → β) (l : List α) : (l.map f).isEmpty = l.isEmpty := by cases l <;> rfl
theorem tru_of {d : D} {v : V} {k : Bool} (rl : Rl (KX X κ) m S H) (h : RD (KX X κ) m S H d v) (e : truD S d = some k) : TruV X.K v H k := by
  unfold truD at e
  split at e
  · cases e; rw [h.non]; rfl
  · cases e; rw [h.bl]; rfl
  · cases e; rw [h.int]; rfl
  · split at e
    · rename_i hl
      cases e; rw [h.str]; exact ⟨hl, rfl⟩
    · cases e
  · rename_i l
    cases e
    obtain ⟨p, vs, rfl, h1, h2⟩ := h.tup
    have := pairEmpty h2
    rw [mapEmpty] at this
    exact .inr (.inl ⟨vs, h1, this⟩)
  · simp only [Option.map_eq_some_iff] at e
    obtain ⟨l, e, rfl⟩ := e
    obtain ⟨p, vs, rfl, h1, h2⟩ := h.items rl e
    exact .inl ⟨vs, h1, pairEmpty h2⟩
theorem dt_truth (ha : DE X W a fa) (he : ∀ whole, isTrue a X.env whole = (do let v ← whole; standAt a.pos; holding [v] (truthy v)) := by intro _; rfl) : DT X W a (bTru fa) := by
  obtain ⟨ta, pa, ia⟩ := ha
  refine ⟨_, pt_truth pa he, fun κ ρ S σ H m Q rl re h => ?_⟩
  refine ia.seq rl re h fun d S1 v H1 m1 x1 rl1 re1 r1 h1 => ?_
  split at h1
  · rename_i k e
    exact ⟨k, tru_of rl1 r1 e, h1.ok' .refl rl1 rfl⟩
  · exact h1.elim
/-- bools as values -/
def eAnd (f g : ED) : ED := fun ρ S => (f ρ S).bind fun x S1 => match x with
  | .p (.bool true) => g ρ S1
  | .p (.bool false) => .ok (.bl false) S1
  | _ => .st
def eOr (f g : ED) : ED := fun ρ S => (f ρ S).bind fun x S1 => match x with
  | .p (.bool false) => g ρ S1
  | .p (.bool true) => .ok (.bl true) S1
  | _ => .st
def eNot (f : ED) : ED := fun ρ S => (f ρ S).bind fun x S1 => match x with
  | .p (.bool b) => .ok (.bl (!b)) S1
  | _ => .st
theorem de_one {op} (ha : DE X W a fa) : DE X W (.BoolOp op [a] pos) fa := by
  obtain ⟨t, p, i⟩ := ha
  exact ⟨t, pe_one p, i⟩
theorem de_and (ha : DE X W a fa) (hb : DE X W (.BoolOp .And (b :: rest) pos) fb) : DE X W (.BoolOp .And (a :: b :: rest) pos) (eAnd fa fb) := by
  obtain ⟨ta, pa, ia⟩ := ha
  obtain ⟨tb, pb, ib⟩ := hb
  refine ⟨_, pe_and pa pb, fun κ ρ S σ H m Q rl re h => ?_⟩
  refine ia.seq rl re h fun d S1 v H1 m1 x1 rl1 re1 r1 h1 => ?_
  split at h1
  · exact ⟨true, r1.bl, ib κ ρ S1 σ H1 m1 Q rl1 re1 h1⟩
  · exact ⟨false, r1.bl, h1.ok' .refl rl1 RD.bl_⟩
  · exact h1.elim
theorem de_or (ha : DE X W a fa) (hb : DE X W (.BoolOp .Or (b :: rest) pos) fb) : DE X W (.BoolOp .Or (a :: b :: rest) pos) (eOr fa fb) := by
  obtain ⟨ta, pa, ia⟩ := ha
  obtain ⟨tb, pb, ib⟩ := hb
  refine ⟨_, pe_or pa pb, fun κ ρ S σ H m Q rl re h => ?_⟩
  refine ia.seq rl re h fun d S1 v H1 m1 x1 rl1 re1 r1 h1 => ?_
  split at h1
  · exact ⟨false, r1.bl, ib κ ρ S1 σ H1 m1 Q rl1 re1 h1⟩
  · exact ⟨true, r1.bl, h1.ok' .refl rl1 RD.bl_⟩
  · exact h1.elim
theorem de_not (ha : DE X W a fa) : DE X W (.UnaryOp .Not a pos) (eNot fa) := by
  obtain ⟨ta, pa, ia⟩ := ha
  refine ⟨_, pe_not pa, fun κ ρ S σ H m Q rl re h => ?_⟩
  refine ia.seq rl re h fun d S1 v H1 m1 x1 rl1 re1 r1 h1 => ?_
  split at h1
  · exact ⟨_, r1.bl, h1.ok' .refl rl1 RD.bl_⟩
  · exact h1.elim
def eIf (c : BD) (f g : ED) : ED := fun ρ S => (c ρ S).bind fun x S1 => if x = true then f ρ S1 else g ρ S1
theorem de_if (hc : DT X W c ba) (ha : DE X W a fa) (hb : DE X W b fb) : DE X W (.IfExp c a b pos) (eIf ba fa fb) := by
  obtain ⟨tc, pc, ic⟩ := hc
  obtain ⟨ta, pa, ia⟩ := ha
  obtain ⟨tb, pb, ib⟩ := hb
  refine ⟨_, pe_ifExp pc pa pb, fun κ ρ S σ H m Q rl re h => ?_⟩
  refine ic.seq rl re h fun d S1 v H1 m1 x1 rl1 re1 r1 h1 => ?_
  have r1 : d = v := r1
  subst r1
  cases d with
  | true => exact ia κ ρ S1 σ H1 m1 Q rl1 re1 h1
  | false => exact ib κ ρ S1 σ H1 m1 Q rl1 re1 h1

/-! ### displays -/
variable {es : List Expr} {ga : AD}
def aNil : AD := fun _ S => .ok [] S
def aCons (f : ED) (g : AD) : AD := fun ρ S => (f ρ S).bind fun x S1 => (g ρ S1).bind fun xs S2 => .ok (x :: xs) S2
theorem da_nil : DA X W [] aNil := ⟨_, pa_nil, fun κ ρ S σ H m Q rl re h => h.ok' .refl rl .nil⟩
theorem da_cons (ha : DE X W a fa) (hb : DA X W es ga) (hs : starEach (a :: es) X.env = (false, eval a X.env) :: starEach es X.env := by rfl) : DA X W (a :: es) (aCons fa ga) := by
  obtain ⟨ta, pa, ia⟩ := ha
  obtain ⟨tb, pb, ib⟩ := hb
  refine ⟨_, pa_cons pa pb hs, fun κ ρ S σ H m Q rl re h => ?_⟩
  refine ia.seq rl re h fun d S1 v H1 m1 x1 rl1 re1 r1 h1 => ?_
  refine ib.seq rl1 re1 h1 fun d2 S2 v2 H2 m2 x2 rl2 re2 r2 h2 => ?_
  exact h2.ok' .refl rl2 (.cons (r1.nx x2) r2)
/-- things come to rest -/
def restD : D → Sto → Option (PyData × Sto)
  | .p d, S => some (d, S)
  | .ob n, S => match S[n]? with
    | some (.lst l) => (pAll l).map fun l' => (.list l', S.set n (.fz l'))
    | some (.fz l) => some (.list l, S)
    | _ => none
  | _, _ => none
theorem restD_p (d : PyData) (S : Sto) : restD (.p d) S = some (d, S) := rfl
theorem RD.restD {d : D} {v : V} {d' : PyData} {S' : Sto} (rl : Rl (KX X κ) m S H) (h : RD (KX X κ) m S H d v) (e : restD d S = some (d', S')) : Rl (KX X κ) m S' H ∧ Nx (KX X κ) m S H m S' H ∧ RD (KX X κ) m S' H (.p d') v := by
  unfold DL.restD at e
  split at e
  · cases e; exact ⟨rl, .refl, h⟩
  · rename_i n
    obtain ⟨a, em, rfl⟩ := h
    split at e
    · rename_i l es
      simp only [Option.map_eq_some_iff] at e
      obtain ⟨l', el, e⟩ := e
      cases e
      have := pAll_some el
      subst this
      exact ⟨rl.rest es, Nx.rest es rfl, RD.rest rl em es⟩
    · rename_i l es
      cases e
      refine ⟨rl, .refl, ?_⟩
      obtain ⟨vs, q, h⟩ := rl.obj n a _ em es
      show RP _ _ _ _ _
      rw [RP]
      refine ⟨a, vs, rfl, q, ?_, h⟩
      rintro (h | ⟨k, x, e1, e2, e3⟩)
      · exact (rl.hid a h).1 (List.mem_of_getElem? em)
      · by_cases hk : n = k
        · subst hk
          rw [es] at e2; cases e2; cases e3
        · exact nodup_ne rl.nd e1 em (Ne.symm hk) rfl
    · cases e
  · cases e
def restAll : List D → Sto → Option (List PyData × Sto)
  | [], S => some ([], S)
  | d :: l, S => match restD d S with
    | some (d', S') => (restAll l S').map fun r => (d' :: r.1, r.2)
    | none => none
theorem restAll_p : ∀ (l : List PyData) (S : Sto), restAll (l.map .p) S = some (l, S)
  | [], _ => rfl
  | d :: l, S => by simp [restAll, restD, restAll_p l S]
theorem RDs.restAll : ∀ {ds : List D} {vs : List V} {l : List PyData} {S S' : Sto}, Rl (KX X κ) m S H → RDs (KX X κ) m S H ds vs → restAll ds S = some (l, S') → Rl (KX X κ) m S' H ∧ Nx (KX X κ) m S H m S' H ∧ RPs (KX X κ) H (lv (KX X κ) m S') l vs
  | [], vs, l, S, S', rl, h, e => by
    cases h
    cases e
    exact ⟨rl, .refl, by rw [RPs]⟩
  | d :: ds, vs, l, S, S', rl, h, e => by
    cases h with
    | cons h1 h2 =>
      unfold DL.restAll at e
      split at e
      · rename_i d' S1 e1
        simp only [Option.map_eq_some_iff] at e
        obtain ⟨⟨l', S2⟩, e2, e⟩ := e
        cases e
        obtain ⟨rl1, x1, r1⟩ := h1.restD rl e1
        obtain ⟨rl2, x2, r2⟩ := RDs.restAll rl1 (RDs.nx x1 h2) e2
        refine ⟨rl2, x1.trans x2, ?_⟩
        rw [RPs]
        exact ⟨_, _, rfl, RP.nx x2 r1, r2⟩
      · cases e
def eTup (f : AD) : ED := fun ρ S => (f ρ S).bind fun ds S1 => match restAll ds S1 with
  | some (l, S2) => if l.length ≤ sizeLine then .ok (.tup l) S2 else .st
  | none => .st
def eLst (f : AD) : ED := fun ρ S => (f ρ S).bind fun ds S1 => match restAll ds S1 with
  | some (l, S2) => if l.length ≤ sizeLine then .ok (.lst l) S2 else .st
  | none => .st
/-- a list that will change -/
def eLstO (f : AD) : ED := fun ρ S => (f ρ S).bind fun ds S1 => if ds.length ≤ sizeLine then .ok (.ob S1.length) (S1 ++ [.lst ds]) else .st
theorem de_tup {x1 : Nat} (ha : DA X W es ga) : DE X W (.Tuple es x1 pos) (eTup ga) := by
  obtain ⟨t, p, i⟩ := ha
  refine ⟨_, pe_tup p, fun κ ρ S σ H m Q rl re h => ?_⟩
  refine i.seq rl re h fun d S1 v H1 m1 x1 rl1 re1 r1 h1 => ?_
  split at h1
  · rename_i l S2 e
    split at h1
    · rename_i hl
      obtain ⟨rl2, x2, r2⟩ := RDs.restAll rl1 r1 e
      exact ⟨by rw [← RPs_len r2]; exact hl, fun z hz => h1.ok' (x2.trans (.new rl2 hz)) (rl2.new hz) (newT rl2 hz r2)⟩
    · exact h1.elim
  · exact h1.elim
theorem de_lst (ha : DA X W es ga) : DE X W (.List es pos) (eLst ga) := by
  obtain ⟨t, p, i⟩ := ha
  refine ⟨_, pe_lst p, fun κ ρ S σ H m Q rl re h => ?_⟩
  refine i.seq rl re h fun d S1 v H1 m1 x1 rl1 re1 r1 h1 => ?_
  split at h1
  · rename_i l S2 e
    split at h1
    · rename_i hl
      obtain ⟨rl2, x2, r2⟩ := RDs.restAll rl1 r1 e
      exact ⟨by rw [← RPs_len r2]; exact hl, fun z hz => h1.ok' (x2.trans (.new rl2 hz)) (rl2.new hz) (newL rl2 hz r2)⟩
    · exact h1.elim
  · exact h1.elim
theorem de_lstO (ha : DA X W es ga) : DE X W (.List es pos) (eLstO ga) := by
  obtain ⟨t, p, i⟩ := ha
  refine ⟨_, pe_lst p, fun κ ρ S σ H m Q rl re h => ?_⟩
  refine i.seq rl re h fun d S1 v H1 m1 x1 rl1 re1 r1 h1 => ?_
  split at h1
  · rename_i hl
    exact ⟨by rw [← pairLen r1]; exact hl, fun z hz => h1.ok' (.push rl1 hz) (rl1.pushL hz r1) (RD.push rl1)⟩
  · exact h1.elim

/-! ### items, parts -/
def gIx : D → D → Sto → Rs D := fun x y S => match y with
  | .p (.int i) => (match x with
    | .p (.tuple l) => (match atI l i with | some d => .ok (.p d) S | none => .st)
    | .p (.str z) => if z.length ≤ sizeLine then (match atI z.cps.toList i with | some c => .ok (.str ⟨#[c]⟩) S | none => .st) else .st
    | x => (match lItems S x with | some l => (match atI l i with | some d => .ok d S | none => .st) | none => .st))
  | _ => .st
theorem atI_pair {α β : Type} {F : α → β → Prop} {l : List α} {r : List β} (q : Paired F l r) {i : Int} {x : α} (e : atI l i = some x) : ∃ y, atI r i = some y ∧ F x y := by
  unfold atI at e ⊢
  rw [← pairLen q]
  cases h : ixN l.length i with
  | none => rw [h] at e; cases e
  | some j =>
    rw [h] at e
    exact pairGet q e
theorem atI_map {α β : Type} (f : α → β) (l : List α) (i : Int) : atI (l.map f) i = (atI l i).map f := by
  unfold atI
  rw [List.length_map]
  cases ixN l.length i <;> simp
theorem de_ix (ha : DE X W a fa) (hb : DE X W b fb) (hs : PlainIx b) : DE X W (.Subscript a b pos) (eBin gIx fa fb) := by
  obtain ⟨ta, pa, ia⟩ := ha
  obtain ⟨tb, pb, ib⟩ := hb
  refine ⟨_, pe_ix ix_seq pa pb hs, imp_bin (fun κ x y vx vy m S H σ Q rl rx ry h => ?_) ia ib⟩
  unfold gIx at h
  split at h
  · rename_i i
    split at h
    · rename_i l
      split at h
      · rename_i d e
        obtain ⟨p, vs, rfl, h1, h2⟩ := rx.tup
        have e' : atI (l.map D.p) i = some (.p d) := by rw [atI_map, e]; rfl
        obtain ⟨y, e2, r⟩ := atI_pair h2 e'
        exact .inr (.inl ⟨p, vs, i, y, rfl, ry.int, h1, e2, h.ok' .refl rl r⟩)
      · exact h.elim
    · rename_i z
      split at h
      · rename_i hl
        split at h
        · rename_i c e
          exact .inr (.inr ⟨z, i, c, rx.str, ry.int, hl, e, h.ok' .refl rl RD.str_⟩)
        · exact h.elim
      · exact h.elim
    · split at h
      · rename_i l el
        split at h
        · rename_i d e
          obtain ⟨p, vs, rfl, h1, h2⟩ := rx.items rl el
          obtain ⟨y, e2, r⟩ := atI_pair h2 e
          exact .inl ⟨p, vs, i, y, rfl, ry.int, h1, e2, h.ok' .refl rl r⟩
        · exact h.elim
      · exact h.elim
  · exact h.elim
structure DO (X : Cx) (W : WX) (e : Option Expr) (f : Env → Sto → Rs (Option Int)) : Prop where
  ex : ∃ t : TO, PO X e t ∧ Imp X W (fun _ _ _ _ (a b : Option Int) => a = b) t f
def oNone : Env → Sto → Rs (Option Int) := fun _ S => .ok none S
def oSome (f : ED) : Env → Sto → Rs (Option Int) := fun ρ S => (f ρ S).bind fun x S1 => match x with
  | .p (.int i) => .ok (some i) S1
  | _ => .st
theorem do_none : DO X W none oNone := ⟨_, po_none, fun κ ρ S σ H m Q rl re h => h.ok' .refl rl rfl⟩
theorem do_some (ha : DE X W a fa) : DO X W (some a) (oSome fa) := by
  obtain ⟨ta, pa, ia⟩ := ha
  refine ⟨_, po_some pa, fun κ ρ S σ H m Q rl re h => ?_⟩
  refine ia.seq rl re h fun d S1 v H1 m1 x1 rl1 re1 r1 h1 => ?_
  split at h1
  · exact ⟨_, r1.int, h1.ok' .refl rl1 rfl⟩
  · exact h1.elim
def cutL {α : Type} (xs : List α) (lo hi : Option Int) : List α := (xs.drop (HT.sIx xs.length 0 lo)).take (HT.sIx xs.length xs.length hi - HT.sIx xs.length 0 lo)
def gSl : D → Option Int → Option Int → Sto → Rs D := fun x lo hi S => match x with
  | .p (.tuple l) => .ok (.tup (cutL l lo hi)) S
  | .p (.str z) => if z.length ≤ sizeLine then .ok (.str (cutS z lo hi)) S else .st
  | x => match vList S x with
    | some l => .ok (.lst (cutL l lo hi)) S
    | none => .st
def eSl (fa : ED) (fl fh : Env → Sto → Rs (Option Int)) : ED := fun ρ S => (fa ρ S).bind fun x S1 => (fl ρ S1).bind fun lo S2 => (fh ρ S2).bind fun hi S3 => gSl x lo hi S3
theorem cut_pair {α : Type} {F : α → V → Prop} {l : List α} {r : List V} (q : Paired F l r) (lo hi : Option Int) : Paired F (cutL l lo hi) (cutV r lo hi) := by
  unfold cutL cutV
  rw [← pairLen q]
  exact pairTake (pairDrop q _) _
theorem cut_all {α : Type} {l : List α} {lo hi : Option Int} (h1 : HT.sIx l.length 0 lo = 0) (h2 : HT.sIx l.length l.length hi = l.length) : cutL l lo hi = l := by
  unfold cutL
  rw [h1, h2]
  simp
theorem de_sl {lo hi : Option Expr} {p2 : Pos} {fl fh} (ha : DE X W a fa) (hl : DO X W lo fl) (hh : DO X W hi fh) : DE X W (.Subscript a (.Slice lo hi none p2) pos) (eSl fa fl fh) := by
  obtain ⟨ta, pa, ia⟩ := ha
  obtain ⟨tl, pl, il⟩ := hl
  obtain ⟨th, ph, ih⟩ := hh
  refine ⟨_, pe_slice (SlR.or sl_list (SlR.or sl_tupA sl_str)) pa pl ph, fun κ ρ S σ H m Q rl re h => ?_⟩
  refine ia.seq rl re h fun d S1 v H1 m1 x1 rl1 re1 r1 h1 => ?_
  refine il.seq rl1 re1 h1 fun lo' S2 lo2 H2 m2 x2 rl2 re2 e1 h2 => ?_
  have e1 : lo' = lo2 := e1
  subst e1
  refine ih.seq rl2 re2 h2 fun hi' S3 hi2 H3 m3 x3 rl3 re3 e2 h3 => ?_
  have e2 : hi' = hi2 := e2
  subst e2
  have r3 := (r1.nx x2).nx x3
  unfold gSl at h3
  split at h3
  · rename_i l
    obtain ⟨p, vs, rfl, q1, q2⟩ := r3.tup'
    have q2' := RPs_iff.mp q2
    refine .inr (.inl ⟨p, vs, rfl, .of q1, fun z => ?_, fun _ y hy => ?_⟩)
    · rw [← RPs_len q2] at z
      rw [cut_all z.1 z.2] at h3
      exact h3.ok' .refl rl3 (tup_of q1 q2)
    · exact h3.ok' (.new rl3 hy) (rl3.new hy) (newT rl3 hy (RPs_iff.mpr (cut_pair q2' _ _)))
  · split at h3
    · rename_i z hl
      exact .inr (.inr ⟨z, r3.str, hl, h3.ok' .refl rl3 RD.str_⟩)
    · exact h3.elim
  · split at h3
    · rename_i l e
      obtain ⟨p, vs, rfl, q1, q2⟩ := r3.vlist rl3 e
      exact .inl ⟨p, vs, rfl, .of q1, fun y hy => h3.ok' (.new rl3 hy) (rl3.new hy) (newL rl3 hy (RPs_iff.mpr (cut_pair (RPs_iff.mp q2) _ _)))⟩
    · exact h3.elim
end
end DL

namespace DL
open PySem PySem.Spec PyProof.Rows L2
section
variable {X : Cx} {W : WX} {m m1 : List Addr} {S S1 : Sto} {H H1 : Hp} {σ : St} {ρ : Env} {κ : Addr → Prop}
variable {a b c e : Expr} {pos : Pos} {fa fb fe : ED} {ba : BD} {s1 : Stmt} {ss ss' : List Stmt} {f1 f2 : SD}
/-! ### statements -/
def sSeq (f g : SD) : SD := fun ρ S => match f ρ S with
  | .nx ρ1 S1 => g ρ1 S1
  | o => o
def sNil : SD := fun ρ S => .nx ρ S
theorem dss_nil : DSs X W [] sNil := ⟨_, pss_nil, fun κ ρ S σ H m Dn rl re h => h σ H m .refl rl re⟩
theorem dss_cons (h1 : DS X W s1 f1) (h2 : DSs X W ss f2) : DSs X W (s1 :: ss) (sSeq f1 f2) := by
  obtain ⟨t1, p1, i1⟩ := h1
  obtain ⟨t2, p2, i2⟩ := h2
  refine ⟨_, pss_cons p1 p2, fun κ ρ S σ H m Dn rl re h => ?_⟩
  refine i1 κ ρ S σ H m _ rl re ?_
  unfold sSeq at h
  split at h
  · rename_i ρ1 S1 e
    rw [e]
    exact fun σ' H' m' x rl' re' => i2 κ ρ1 S1 σ' H' m' Dn rl' re' (PostS.nx x h)
  · rename_i hn
    cases e : f1 ρ S with
    | nx ρ1 S1 => exact absurd e (hn ρ1 S1)
    | st => rw [e] at h; exact h
    | bk ρ1 S1 => rw [e] at h; exact h
    | ct ρ1 S1 => rw [e] at h; exact h
    | rt d S1 => rw [e] at h; exact h
    | ex x ρ1 S1 => rw [e] at h; exact h
theorem dss_one (h1 : DS X W s1 f1) : DSs X W [s1] f1 := by
  obtain ⟨t1, p1, i1⟩ := h1
  exact ⟨_, pss_one p1, i1⟩
def sBrk : SD := fun ρ S => .bk ρ S
def sCnt : SD := fun ρ S => .ct ρ S
theorem ds_pass : DS X W (.Pass pos) sNil := ⟨_, ps_pass, fun κ ρ S σ H m Dn rl re h => h σ H m .refl rl re⟩
theorem ds_break : DS X W (.Break pos) sBrk := ⟨_, ps_break, fun κ ρ S σ H m Dn rl re h => h σ H m .refl rl re⟩
theorem ds_continue : DS X W (.Continue pos) sCnt := ⟨_, ps_continue, fun κ ρ S σ H m Dn rl re h => h σ H m .refl rl re⟩
def sExpr (f : ED) : SD := fun ρ S => liftS ρ (f ρ S) fun _ S1 => .nx ρ S1
theorem ds_expr (he : DE X W e fe) (hs : swapsWith e none pos.line X.env = pure false := by rfl) : DS X W (.Expr e pos) (sExpr fe) := by
  obtain ⟨t, p, i⟩ := he
  refine ⟨_, ps_expr p hs, fun κ ρ S σ H m Dn rl re h => ?_⟩
  exact i.seqS rl re h fun d S1 v H1 m1 x1 rl1 re1 r1 h1 => h1 σ H1 m1 .refl rl1 re1
/-- what is handed back, as it is; at rest -/
def sRet (f : ED) : SD := fun ρ S => liftS ρ (f ρ S) fun d S1 => .rt d S1
def sRetR (f : ED) : SD := fun ρ S => liftS ρ (f ρ S) fun d S1 => match restD d S1 with
  | some (p, S2) => .rt (.p p) S2
  | none => .st
def sRetN : SD := fun _ S => .rt .non S
theorem ds_ret (he : DE X W e fe) : DS X W (.Return (some e) pos) (sRet fe) := by
  obtain ⟨t, p, i⟩ := he
  refine ⟨_, ps_ret p, fun κ ρ S σ H m Dn rl re h => ?_⟩
  exact i.seqS rl re h fun d S1 v H1 m1 x1 rl1 re1 r1 h1 => h1 v H1 m1 .refl rl1 r1
theorem ds_retR (he : DE X W e fe) : DS X W (.Return (some e) pos) (sRetR fe) := by
  obtain ⟨t, p, i⟩ := he
  refine ⟨_, ps_ret p, fun κ ρ S σ H m Dn rl re h => ?_⟩
  refine i.seqS rl re h fun d S1 v H1 m1 x1 rl1 re1 r1 h1 => ?_
  split at h1
  · rename_i q S2 e
    obtain ⟨rl2, x2, r2⟩ := r1.restD rl1 e
    exact h1 v H1 m1 x2 rl2 r2
  · exact h1.elim
theorem ds_retN : DS X W (.Return none pos) sRetN := ⟨_, ps_retN, fun κ ρ S σ H m Dn rl re h => h .non H m .refl rl RD.non_⟩
def sIf (c : BD) (f g : SD) : SD := fun ρ S => liftS ρ (c ρ S) fun b S1 => if b = true then f ρ S1 else g ρ S1
theorem ds_if (hc : DT X W c ba) (h1 : DSs X W ss f1) (h2 : DSs X W ss' f2) : DS X W (.If c ss ss' pos) (sIf ba f1 f2) := by
  obtain ⟨tc, pc, ic⟩ := hc
  obtain ⟨t1, p1, i1⟩ := h1
  obtain ⟨t2, p2, i2⟩ := h2
  refine ⟨_, ps_if pc p1 p2, fun κ ρ S σ H m Dn rl re h => ?_⟩
  refine ic.seqS rl re h fun d S1 v H1 m1 x1 rl1 re1 r1 h1 => ?_
  have r1 : d = v := r1
  subst r1
  cases d with
  | true => exact i1 κ ρ S1 σ H1 m1 Dn rl1 re1 h1
  | false => exact i2 κ ρ S1 σ H1 m1 Dn rl1 re1 h1
/-! ### targets -/
def PostG (X : Cx) (κ : Addr → Prop) (m : List Addr) (S : Sto) (H : Hp) (r : Rs Env) (Q : St → Hp → Prop) : Prop := match r with
  | .ok ρ S' => ∀ σ' H' m', Nx (KX X κ) m S H m' S' H' → Rl (KX X κ) m' S' H' → RE (KX X κ) m' S' H' ρ σ' → Q σ' H'
  | _ => False
abbrev GD := D → Env → Sto → Rs Env
structure DG (X : Cx) (W : WX) (tg : Expr) (g : GD) : Prop where
  ex : ∃ t : TG, PG X tg t ∧ ∀ κ d v ρ S σ H m Q, Rl (KX X κ) m S H → RE (KX X κ) m S H ρ σ → RD (KX X κ) m S H d v → PostG X κ m S H (g d ρ S) Q → t v σ H Q
abbrev GDs := List D → Env → Sto → Rs Env
structure DGs (X : Cx) (W : WX) (tgs : List Expr) (g : GDs) : Prop where
  ex : ∃ t : TGs, PGs X tgs t ∧ ∀ κ ds vs ρ S σ H m Q, Rl (KX X κ) m S H → RE (KX X κ) m S H ρ σ → RDs (KX X κ) m S H ds vs → PostG X κ m S H (g ds ρ S) Q → t vs σ H Q
theorem PostG.nx {r : Rs Env} {Q : St → Hp → Prop} (x : Nx (KX X κ) m S H m1 S1 H1) (h : PostG X κ m S H r Q) : PostG X κ m1 S1 H1 r Q := by
  cases r with
  | st => exact h
  | ok d S' => exact fun v H' m' y rl r => h v H' m' (x.trans y) rl r
  | ex e S' => exact h
def gNm (i : Nat) : GD := fun d ρ S => .ok (ρ.set i (some d)) S
theorem dg_name {i : Nat} {x : Str} (hN : X.N.Nodup) (hi : X.N[i]? = some x) (hx : Loc X.env.scope x) (hf : X.fn x = true ∨ X.env.scope.names.lookup x = some .local := by first | exact .inl rfl | exact .inr rfl | assumption) : DG X W (.Name x pos) (gNm i) :=
  ⟨_, pg_name hN hi hx hf, fun κ d v ρ S σ H m Q rl re r h => h _ H m .refl rl (pairSet re fun d' e => ⟨v, rfl, by cases e; exact r⟩)⟩
def gsNil : GDs := fun ds ρ S => match ds with
  | [] => .ok ρ S
  | _ => .st
def gsCons (g : GD) (h : GDs) : GDs := fun ds ρ S => match ds with
  | d :: ds => (match g d ρ S with | .ok ρ1 S1 => h ds ρ1 S1 | _ => .st)
  | _ => .st
theorem dgs_nil : DGs X W [] gsNil := by
  refine ⟨_, pgs_nil, fun κ ds vs ρ S σ H m Q rl re r h => ?_⟩
  cases r with
  | nil => exact ⟨rfl, h σ H m .refl rl re⟩
  | cons _ _ => exact h.elim
theorem dgs_cons {es : List Expr} {g : GD} {gs : GDs} (h1 : DG X W e g) (h2 : DGs X W es gs) (hs : (assignEach (e :: es) X.env).map (·.2) = assign e X.env :: (assignEach es X.env).map (·.2) := by rfl) : DGs X W (e :: es) (gsCons g gs) := by
  obtain ⟨t1, p1, i1⟩ := h1
  obtain ⟨t2, p2, i2⟩ := h2
  refine ⟨_, pgs_cons p1 p2 hs, fun κ ds vs ρ S σ H m Q rl re r h => ?_⟩
  cases r with
  | nil => exact h.elim
  | cons q1 q2 =>
    rename_i d v ds vs
    refine ⟨v, vs, rfl, i1 κ d v ρ S σ H m _ rl re q1 ?_⟩
    unfold gsCons at h
    cases e1 : g d ρ S with
    | st => simp only [e1] at h; exact h.elim
    | ex _ _ => simp only [e1] at h; exact h.elim
    | ok ρ1 S1 =>
      simp only [e1] at h
      exact fun σ' H' m' x rl' re' => i2 κ ds vs ρ1 S1 σ' H' m' Q rl' re' (RDs.nx x q2) (PostG.nx x h)
def gTupD (n : Nat) (gs : GDs) : GD := fun d ρ S => match d with
  | .p (.tuple l) => if l.length = n then gs (l.map .p) ρ S else .st
  | _ => .st
theorem dg_tup {es : List Expr} {k n : Nat} {gs : GDs} (hc : X.calm = true) (h : DGs X W es gs) (hn : (assignEach es X.env).length = n := by rfl) (hst : (assignEach es X.env).findIdx? (·.1) = none := by rfl) : DG X W (.Tuple es k pos) (gTupD n gs) := by
  obtain ⟨t, p, i⟩ := h
  refine ⟨_, pg_tup hc p hn hst, fun κ d v ρ S σ H m Q rl re r h => ?_⟩
  unfold gTupD at h
  split at h
  · split at h
    · rename_i l hl
      obtain ⟨q, vs, rfl, h1, h2⟩ := r.tup
      exact ⟨q, vs, rfl, h1, by rw [← pairLen h2, List.length_map]; exact hl, i κ _ vs ρ S σ H m Q rl re h2 h⟩
    · exact h.elim
  · exact h.elim
/-- xs[i] = v of a list that changes -/
def setL (d : D) (o i : D) (S : Sto) : Option Sto := match o with
  | .ob n => (match i with
    | .p (.int i) => (match S[n]? with
      | some (.lst l) => (match ixN l.length i with
        | some j => some (S.set n (.lst (l.set j d)))
        | none => none)
      | _ => none)
    | _ => none)
  | _ => none
def okE (ρ : Env) (o : Option Sto) : Rs Env := match o with
  | some S => .ok ρ S
  | none => .st
def gSetL (fo fi : ED) : GD := fun d ρ S => (fo ρ S).bind fun o S1 => (fi ρ S1).bind fun i S2 => okE ρ (setL d o i S2)
theorem Imp.to {α β : Type} {Ra : Kh → List Addr → Sto → Hp → α → β → Prop} {t : St → Hp → (β → Hp → Prop) → Prop} {f : Env → Sto → Rs α} (i : Imp X W Ra t f) (rl : Rl (KX X κ) m S H) (re : RE (KX X κ) m S H ρ σ) {d : α} {S1 : Sto} (e : f ρ S = .ok d S1) {C : β → Hp → Prop}
    (h : ∀ v H1 m1, Nx (KX X κ) m S H m1 S1 H1 → Rl (KX X κ) m1 S1 H1 → RE (KX X κ) m1 S1 H1 ρ σ → Ra (KX X κ) m1 S1 H1 d v → C v H1) : t σ H C := by
  refine i κ ρ S σ H m C rl re ?_
  rw [e]
  exact fun v H1 m1 x rl1 r => h v H1 m1 x rl1 (re.nx x) r
theorem dg_setL {o i : Expr} {fo fi : ED} (ho : DE X W o fo) (hi : DE X W i fi)
    (ha : ∀ v, assign (.Subscript o i pos) X.env v = (do
      let ov ← holding [v] (eval o X.env)
      let iv ← holding [v, ov] (eval i X.env)
      standAt pos
      holding [v, ov, iv] (setItem ov iv v)
      release [v, ov, iv] []) := by intro _; rfl) : DG X W (.Subscript o i pos) (gSetL fo fi) := by
  obtain ⟨t1, p1, i1⟩ := ho
  obtain ⟨t2, p2, i2⟩ := hi
  refine ⟨_, pg_sub p1 p2 set_list ha, fun κ d v ρ S σ H m Q rl re r h => ?_⟩
  unfold gSetL at h
  cases e1 : fo ρ S with
  | st => rw [e1] at h; exact h.elim
  | ex _ _ => rw [e1] at h; exact h.elim
  | ok o' S1 =>
    rw [e1] at h
    refine i1.to rl re e1 fun v1 H1 m1 x1 rl1 re1 r1 => ?_
    have h1 : PostG X κ m1 S1 H1 ((fi ρ S1).bind fun i S2 => okE ρ (setL d o' i S2)) Q := PostG.nx x1 h
    cases e2 : fi ρ S1 with
    | st => rw [e2] at h1; exact h1.elim
    | ex _ _ => rw [e2] at h1; exact h1.elim
    | ok i' S2 =>
      rw [e2] at h1
      refine i2.to rl1 re1 e2 fun v2 H2 m2 x2 rl2 re2 r2 => ?_
      have h2 : PostG X κ m2 S2 H2 (okE ρ (setL d o' i' S2)) Q := PostG.nx x2 h1
      cases e3 : setL d o' i' S2 with
      | none => rw [e3] at h2; exact h2.elim
      | some S3 =>
        rw [e3] at h2
        unfold setL at e3
        split at e3
        · rename_i n
          split at e3
          · rename_i k
            split at e3
            · rename_i l es
              split at e3
              · rename_i j ej
                cases e3
                obtain ⟨p, em, rfl⟩ := r1.nx x2
                obtain ⟨vs, q1, q2⟩ := rl2.obj n p _ em es
                have rd := (r.nx x1).nx x2
                have q3 := pairSet q2 (i := j) rd
                exact ⟨p, vs, k, j, rfl, r2.int, q1, by rw [← pairLen q2]; exact ej, h2 σ _ m2 (Nx.put rl2 em es rfl) (rl2.putL em es q3) (re2.nx (Nx.put rl2 em es rfl))⟩
              · cases e3
            · cases e3
          · cases e3
        · cases e3
def sAsg (f : ED) (g : GD) : SD := fun ρ S => liftS ρ (f ρ S) fun d S1 => match g d ρ S1 with
  | .ok ρ1 S2 => .nx ρ1 S2
  | _ => .st
theorem imp_asg {te : TE} {t : TG} {g : GD} (ie : Imp X W RD te fe) (ig : ∀ κ d v ρ S σ H m Q, Rl (KX X κ) m S H → RE (KX X κ) m S H ρ σ → RD (KX X κ) m S H d v → PostG X κ m S H (g d ρ S) Q → t v σ H Q) : ImpS X W (tAsg te t) (sAsg fe g) := by
  intro κ ρ S σ H m Dn rl re h
  refine ie.seqS rl re h fun d S1 v H1 m1 x1 rl1 re1 r1 h1 => ?_
  refine ig κ d v ρ S1 σ H1 m1 _ rl1 re1 r1 ?_
  split at h1
  · rename_i e
    rw [e]
    exact h1
  · exact h1.elim
theorem ds_asg {tg : Expr} {g : GD} (he : DE X W e fe) (hg : DG X W tg g) (hs : swapsWithSole [tg] e pos.line X.env = pure false := by rfl) (hw : swappedStores [tg] e X.env = pure none := by rfl)
    (h1 : (assignEach [tg] X.env).map (·.2) = [assign tg X.env] := by rfl) : DS X W (.Assign [tg] e pos) (sAsg fe g) := by
  obtain ⟨te, pe, ie⟩ := he
  obtain ⟨t, pg, ig⟩ := hg
  exact ⟨_, ps_asg pe pg hs hw h1, imp_asg ie ig⟩
/-- name = value -/
def sSet (i : Nat) (f : ED) : SD := fun ρ S => liftS ρ (f ρ S) fun d S1 => .nx (ρ.set i (some d)) S1
theorem ds_set {i : Nat} {x : Str} {pos' : Pos} (hN : X.N.Nodup) (hi : X.N[i]? = some x) (hx : Loc X.env.scope x) (he : DE X W e fe) (hs : swapsWith e (some (.Name x pos')) pos.line X.env = pure false := by rfl)
    (hf : X.fn x = true ∨ X.env.scope.names.lookup x = some .local := by first | exact .inl rfl | exact .inr rfl | assumption) : DS X W (.Assign [.Name x pos'] e pos) (sSet i fe) := by
  obtain ⟨te, pe, ie⟩ := he
  refine ⟨_, ps_set hN hi hx pe hs hf, fun κ ρ S σ H m Dn rl re h => ?_⟩
  refine ie.seqS rl re h fun d S1 v H1 m1 x1 rl1 re1 r1 h1 => ?_
  exact h1 _ H1 m1 .refl rl1 (pairSet re1 fun d' e => ⟨v, rfl, by cases e; exact r1⟩)
/-- name op= e -/
def sAug (i : Nat) (f : ED) (g : D → D → Sto → Rs D) : SD := fun ρ S => match ρ[i]? with
  | some (some x) => liftS ρ (f ρ S) fun y S1 => liftS ρ (g x y S1) fun z S2 => .nx (ρ.set i (some z)) S2
  | _ => .st
theorem ds_aug {i : Nat} {x : Str} {op : Operator} {pos' : Pos} {g : D → D → Sto → Rs D} (hN : X.N.Nodup) (hi : X.N[i]? = some x) (hx : Loc X.env.scope x) (he : DE X W e fe) (ho : OpD X W (inplaceOp op) g)
    (hf : X.fn x = true ∨ X.env.scope.names.lookup x = some .local := by first | exact .inl rfl | exact .inr rfl | assumption) : DS X W (.AugAssign (.Name x pos') op e pos) (sAug i fe g) := by
  obtain ⟨te, pe, ie⟩ := he
  obtain ⟨r, o, hr⟩ := ho
  refine ⟨_, ps_aug hN hi hx pe o hf, fun κ ρ S σ H m Dn rl re h => ?_⟩
  unfold sAug at h
  split at h
  · rename_i d0 e0
    obtain ⟨v0, e1, q⟩ := pairGet re e0
    obtain ⟨u, rfl, r0⟩ := q d0 rfl
    refine ⟨u, e1, ?_⟩
    refine ie.seqS rl re h fun d S1 v H1 m1 x1 rl1 re1 r1 h1 => ?_
    refine hr κ d0 d u v m1 S1 H1 σ _ rl1 (r0.nx x1) r1 ?_
    cases e2 : g d0 d S1 with
    | st => rw [e2] at h1; exact h1
    | ex y S2 => rw [e2] at h1; exact fun H' m' c dd x rl' rx => h1 σ H' m' c dd x rl' (re1.nx x) rx
    | ok z S2 =>
      rw [e2] at h1
      exact fun v' H' m' x rl' rz => h1 _ H' m' x rl' (pairSet (re1.nx x) fun d' e => ⟨v', rfl, by cases e; exact rz⟩)
  · exact h.elim
def gAddI : D → D → Sto → Rs D := fun x y S => match x, y with
  | .p (.int i), .p (.int j) => .ok (.int (i + j)) S
  | .p (.str a), .p (.str b) => if a.length + b.length ≤ sizeLine then .ok (.str (a ++ b)) S else .st
  | _, _ => .st
theorem oi_add : OpD X W (inplaceOp .Add) gAddI := by
  refine ⟨_, OpR.or iop_add iop_add_str, fun κ x y vx vy m S H σ Q rl rx ry h => ?_⟩
  unfold gAddI at h
  split at h
  · exact .inl ⟨_, _, rx.int, ry.int, h.ok' .refl rl RD.int_⟩
  · split at h
    · rename_i hl
      exact .inr ⟨_, _, rx.str, ry.str, hl, h.ok' .refl rl RD.str_⟩
    · exact h.elim
  · exact h.elim
theorem oi_sub : OpD X W (inplaceOp .Sub) gSub := by
  refine ⟨_, iop_sub, fun κ x y vx vy m S H σ Q rl rx ry h => ?_⟩
  unfold gSub gInt at h
  split at h
  · rw [if_pos rfl] at h
    exact ⟨_, _, rx.int, ry.int, h.ok' .refl rl RD.int_⟩
  · exact h.elim

/-! ### what is walked -/
structure ItOk (K : Kh) (m : List Addr) (S : Sto) (H : Hp) (J : It) (ds : List D) (chk : Sto → Prop) : Prop where
  here : chk S
  go : ∀ (h' : Addr → Prop) (m' : List Addr) (S' : Sto) (H' : Hp) (i : Nat) (d : D), (∀ a, h' a → K.h a ∨ H a = none) → Nx K m S H m' S' H' → Rl ⟨K.K, h', K.g⟩ m' S' H' → chk S' → ds[i]? = some d →
    J.go i H' ∧ ∀ x H'', J.yld i H' x H'' → Nx ⟨K.K, h', K.g⟩ m' S' H' m' S' H'' ∧ Rl ⟨K.K, h', K.g⟩ m' S' H'' ∧ RD ⟨K.K, h', K.g⟩ m' S' H'' d x
  stop : ∀ (h' : Addr → Prop) (m' : List Addr) (S' : Sto) (H' : Hp) (i : Nat), (∀ a, h' a → K.h a ∨ H a = none) → Nx K m S H m' S' H' → Rl ⟨K.K, h', K.g⟩ m' S' H' → chk S' → ds.length ≤ i → J.stop i H'
abbrev IDt := List D × (Sto → Prop)
structure DI (X : Cx) (W : WX) (tg iter : Expr) (f : Env → Sto → Rs IDt) : Prop where
  ex : ∃ wi : TI, PI X tg iter wi ∧ Imp X W (fun K m S H (d : IDt) (J : It) => ItOk K m S H J d.1 d.2) wi f
/-- over a list or a tuple -/
def chkOf (d : D) (l : List D) : Sto → Prop := match d with
  | .ob n => fun S => lItems S (.ob n) = some l
  | _ => fun _ => True
def iLst (f : ED) : Env → Sto → Rs IDt := fun ρ S => (f ρ S).bind fun d S1 => match lItems S1 d with
  | some l => .ok (l, chkOf d l) S1
  | none => .st
def iTpl (f : ED) : Env → Sto → Rs IDt := fun ρ S => (f ρ S).bind fun d S1 => match d with
  | .p (.tuple l) => .ok (l.map .p, fun _ => True) S1
  | _ => .st
theorem di_lst {tg : Expr} (he : DE X W e fe) : DI X W tg e (iLst fe) := by
  obtain ⟨t, p, i⟩ := he
  refine ⟨_, pi_list p, fun κ ρ S σ H m Q rl re h => ?_⟩
  refine i.seq rl re h fun d S1 v H1 m1 x1 rl1 re1 r1 h1 => ?_
  split at h1
  · rename_i l el
    obtain ⟨q, vs, rfl, q1, q2⟩ := r1.items rl1 el
    have key : ∀ (h' : Addr → Prop) (m' : List Addr) (S' : Sto) (H' : Hp), (∀ a, h' a → κ a ∨ H1 a = none) → Nx (KX X κ) m1 S1 H1 m' S' H' → Rl (KX X h') m' S' H' → chkOf d l S' → ∃ ws, SqL X.K H' q ws ∧ RDs (KX X h') m' S' H' l ws := by
      intro h' m' S' H' hs x rl' ck
      have el' : lItems S' d = some l := by
        cases d with
        | p d =>
          cases d <;> first | (exact el) | (exact absurd el (by simp [lItems]))
        | ob n => exact ck
        | scr ns => exact el
        | xc _ _ _ => exact absurd el (by simp [lItems])
      obtain ⟨q', vs', e', q1', q2'⟩ := RD.items rl' (RD.nxh x hs r1) el'
      cases e'
      exact ⟨vs', q1', q2'⟩
    refine ⟨q, rfl, ⟨vs, q1⟩, h1.ok' .refl rl1 ⟨?_, fun h' m' S' H' i d' hs x rl' ck e => ?_, fun h' m' S' H' i hs x rl' ck hi => ?_⟩⟩
    · show chkOf d l S1
      unfold chkOf
      split
      · exact el
      · trivial
    · obtain ⟨ws, s1, s2⟩ := key h' m' S' H' hs x rl' ck
      obtain ⟨y, ey, ry⟩ := pairGet s2 e
      refine ⟨⟨ws, y, s1, ey⟩, fun z H'' hy => ?_⟩
      obtain ⟨rfl, hy⟩ := hy
      have := hy ws s1
      rw [ey] at this
      cases this
      exact ⟨.refl, rl', ry⟩
    · obtain ⟨ws, s1, s2⟩ := key h' m' S' H' hs x rl' ck
      exact ⟨ws, s1, by rw [← pairLen s2]; exact hi⟩
  · exact h1.elim
theorem di_tup {tg : Expr} (he : DE X W e fe) : DI X W tg e (iTpl fe) := by
  obtain ⟨t, p, i⟩ := he
  refine ⟨_, pi_tup p, fun κ ρ S σ H m Q rl re h => ?_⟩
  refine i.seq rl re h fun d S1 v H1 m1 x1 rl1 re1 r1 h1 => ?_
  split at h1
  · rename_i l
    obtain ⟨q, vs, rfl, q1, q2⟩ := r1.tup'
    have q2 := RDs_p.mpr q2
    refine ⟨q, rfl, ⟨vs, .of q1⟩, h1.ok' .refl rl1 ⟨trivial, fun h' m' S' H' i d' hs x rl' ck e => ?_, fun h' m' S' H' i hs x rl' ck hi => ?_⟩⟩
    · obtain ⟨y, ey, ry⟩ := pairGet (RDs.nxh x hs q2) e
      refine ⟨⟨vs, y, .of (x.tup _ _ q1), ey⟩, fun z H'' hy => ?_⟩
      obtain ⟨rfl, hy⟩ := hy
      have := hy vs (.of (x.tup _ _ q1))
      rw [ey] at this
      cases this
      exact ⟨.refl, rl', ry⟩
    · exact ⟨vs, .of (x.tup _ _ q1), by rw [← pairLen q2]; exact hi⟩
  · exact h1.elim
/-- range -/
def rngL (lo : Int) (n : Nat) : List D := (List.range n).map fun (k : Nat) => D.int (lo + (k : Int))
noncomputable def big62 (i : Int) : Bool := @decide (-(2 ^ 62) ≤ i ∧ i < 2 ^ 62) (Classical.propDecidable _)
theorem big62_iff {i : Int} (h : big62 i = true) : -(2 ^ 62) ≤ i ∧ i < 2 ^ 62 := @of_decide_eq_true _ (Classical.propDecidable _) h
noncomputable def iRgA (f : AD) : Env → Sto → Rs IDt := fun ρ S => (f ρ S).bind fun ds S1 => match ds with
  | [.p (.int j)] => if big62 j = true then .ok (rngL 0 j.toNat, fun _ => True) S1 else .st
  | _ => .st
noncomputable def iRgB (f : AD) : Env → Sto → Rs IDt := fun ρ S => (f ρ S).bind fun ds S1 => match ds with
  | [.p (.int i), .p (.int j)] => if big62 i = true ∧ big62 j = true then .ok (rngL i (j - i).toNat, fun _ => True) S1 else .st
  | _ => .st
theorem itr_ok {lo : Int} {n : Nat} : ItOk (KX X κ) m S H (Itr lo n) (rngL lo n) (fun _ => True) := by
  refine ⟨trivial, fun h' m' S' H' i d' hs x rl' ck e => ?_, fun h' m' S' H' i hs x rl' ck hi => ?_⟩
  · unfold rngL at e
    rw [List.getElem?_map] at e
    have hi : i < n := by
      cases h : (List.range n)[i]? with
      | none => rw [h] at e; cases e
      | some k =>
        have := (List.getElem?_eq_some_iff.mp h).1
        simpa using this
    rw [List.getElem?_range hi] at e
    cases e
    refine ⟨hi, fun z H'' hy => ?_⟩
    obtain ⟨rfl, rfl⟩ := hy
    exact ⟨.refl, rl', RD.int_⟩
  · unfold rngL at hi
    rw [List.length_map, List.length_range] at hi
    exact hi
theorem RDs1 {d : D} {vs : List V} (h : RDs (KX X κ) m S H [d] vs) : ∃ v, vs = [v] ∧ RD (KX X κ) m S H d v := by
  cases h with
  | cons h1 h2 => cases h2; exact ⟨_, rfl, h1⟩
theorem RDs2 {d d' : D} {vs : List V} (h : RDs (KX X κ) m S H [d, d'] vs) : ∃ v v', vs = [v, v'] ∧ RD (KX X κ) m S H d v ∧ RD (KX X κ) m S H d' v' := by
  cases h with
  | cons h1 h2 =>
    obtain ⟨v', rfl, h3⟩ := RDs1 h2
    exact ⟨_, _, rfl, h1, h3⟩
theorem di_range1 {tg : Expr} {p : Pos} {ga : AD} (hg : Gl X "range") (hm : X.mg "range" = none) (ha : DA X W [a] ga) (hs : starEach [a] X.env = [(false, eval a X.env)] := by rfl) : DI X W tg (.Call (.Name "range" p) [a] [] pos) (iRgA ga) := by
  obtain ⟨t, q, i⟩ := ha
  refine ⟨_, pi_range1 hg hm q hs, fun κ ρ S σ H m Q rl re h => ?_⟩
  refine i.seq rl re h fun d S1 v H1 m1 x1 rl1 re1 r1 h1 => ?_
  split at h1
  · split at h1
    · rename_i j hj
      obtain ⟨u, rfl, q1⟩ := RDs1 r1
      have hj := big62_iff hj
      rw [q1.int]
      exact ⟨j, rfl, hj.1, hj.2, h1.ok' .refl rl1 itr_ok⟩
    · exact h1.elim
  · exact h1.elim
theorem di_range2 {tg : Expr} {p : Pos} {ga : AD} (hg : Gl X "range") (hm : X.mg "range" = none) (ha : DA X W [a, b] ga) (hs : starEach [a, b] X.env = [(false, eval a X.env), (false, eval b X.env)] := by rfl) (hs2 : starEach [b] X.env = [(false, eval b X.env)] := by rfl) :
    DI X W tg (.Call (.Name "range" p) [a, b] [] pos) (iRgB ga) := by
  obtain ⟨t, q, i⟩ := ha
  refine ⟨_, pi_range2 hg hm q hs hs2, fun κ ρ S σ H m Q rl re h => ?_⟩
  refine i.seq rl re h fun d S1 v H1 m1 x1 rl1 re1 r1 h1 => ?_
  split at h1
  · split at h1
    · rename_i i j hj
      obtain ⟨u, u', rfl, q1, q2⟩ := RDs2 r1
      have h1' := big62_iff hj.1
      have h2' := big62_iff hj.2
      rw [q1.int, q2.int]
      exact ⟨i, j, rfl, ⟨h1'.1, h1'.2, h2'.1, h2'.2⟩, h1.ok' .refl rl1 itr_ok⟩
    · exact h1.elim
  · exact h1.elim
/-! ### for -/
open Classical in
noncomputable def forL (g : GD) (body : SD) (chk : Sto → Prop) : List D → Env → Sto → Out
  | [], ρ, S => .nx ρ S
  | d :: ds, ρ, S => match g d ρ S with
    | .ok ρ1 S1 => (match body ρ1 S1 with
      | .nx ρ2 S2 => if chk S2 then forL g body chk ds ρ2 S2 else .st
      | .ct ρ2 S2 => if chk S2 then forL g body chk ds ρ2 S2 else .st
      | .bk ρ2 S2 => .nx ρ2 S2
      | o => o)
    | _ => .st
noncomputable def sFor (f : Env → Sto → Rs IDt) (g : GD) (body : SD) : SD := fun ρ S => liftS ρ (f ρ S) fun d S1 => forL g body d.2 d.1 ρ S1
theorem imp_for {wi : TI} {t : TG} {tb : TS} {f : Env → Sto → Rs IDt} {g : GD} {fb : SD} (ii : Imp X W (fun K m S H (d : IDt) (J : It) => ItOk K m S H J d.1 d.2) wi f)
    (ig : ∀ κ d v ρ S σ H m Q, Rl (KX X κ) m S H → RE (KX X κ) m S H ρ σ → RD (KX X κ) m S H d v → PostG X κ m S H (g d ρ S) Q → t v σ H Q) (ib : ImpS X W tb fb) : ImpS X W (tFor wi t tb) (sFor f g fb) := by
  intro κ ρ S σ H m Dn rl re h
  refine ii.seqS rl re h fun d S1 J H1 m1 x1 rl1 re1 ok h1 => ?_
  obtain ⟨ds, chk⟩ := d
  have ok : ItOk (KX X κ) m1 S1 H1 J ds chk := ok
  refine ⟨fun i n σ' H' => n = ds.length - i ∧ i ≤ ds.length ∧ ∃ ρ' S' m', Nx (KX X κ) m1 S1 H1 m' S' H' ∧ Rl (KX X κ) m' S' H' ∧ RE (KX X κ) m' S' H' ρ' σ' ∧ chk S' ∧ PostS X κ W m' S' H' (forL g fb chk (ds.drop i) ρ' S') Dn,
    ⟨ds.length, by simp, Nat.zero_le _, ρ, S1, m1, .refl, rl1, re1, ok.here, by simpa using h1⟩, ?_⟩
  rintro i n σ2 H2 ⟨rfl, hi, ρ2, S2, m2, x2, rl2, re2, ck, h2⟩
  by_cases hlt : i < ds.length
  · have ed : ds.drop i = ds[i] :: ds.drop (i + 1) := List.drop_eq_getElem_cons hlt
    rw [ed] at h2
    obtain ⟨hgo, hy⟩ := ok.go κ m2 S2 H2 i ds[i] (fun _ z => .inl z) x2 rl2 ck (List.getElem?_eq_getElem hlt)
    refine .inr ⟨hgo, fun σ' H' => i + 1 ≤ ds.length ∧ ∃ ρ' S' m', Nx (KX X κ) m1 S1 H1 m' S' H' ∧ Rl (KX X κ) m' S' H' ∧ RE (KX X κ) m' S' H' ρ' σ' ∧ chk S' ∧ PostS X κ W m' S' H' (forL g fb chk (ds.drop (i + 1)) ρ' S') Dn,
      fun σ' H' z => ⟨ds.length - (i + 1), by omega, rfl, z.1, z.2⟩, fun x H'' y => ?_⟩
    obtain ⟨x3, rl3, r3⟩ := hy x H'' y
    refine ig κ ds[i] x ρ2 S2 σ2 H'' m2 _ rl3 (re2.nx x3) r3 ?_
    have h3 := PostS.nx x3 h2
    unfold forL at h3
    cases e1 : g ds[i] ρ2 S2 with
    | st => simp only [e1] at h3; exact h3.elim
    | ex _ _ => simp only [e1] at h3; exact h3.elim
    | ok ρ4 S4 =>
      simp only [e1] at h3
      intro σ4 H4 m4 x4 rl4 re4
      refine ib κ ρ4 S4 σ4 H4 m4 _ rl4 re4 ?_
      have h4 := PostS.nx x4 h3
      have x14 := (x2.trans x3).trans x4
      cases e2 : fb ρ4 S4 with
      | st => simp only [e2] at h4; exact h4.elim
      | nx ρ5 S5 =>
        simp only [e2] at h4
        intro σ5 H5 m5 x5 rl5 re5
        by_cases hc : chk S5
        · rw [if_pos hc] at h4
          exact ⟨hlt, ρ5, S5, m5, x14.trans x5, rl5, re5, hc, PostS.nx x5 h4⟩
        · rw [if_neg hc] at h4; exact h4.elim
      | ct ρ5 S5 =>
        simp only [e2] at h4
        intro σ5 H5 m5 x5 rl5 re5
        by_cases hc : chk S5
        · rw [if_pos hc] at h4
          exact ⟨hlt, ρ5, S5, m5, x14.trans x5, rl5, re5, hc, PostS.nx x5 h4⟩
        · rw [if_neg hc] at h4; exact h4.elim
      | bk ρ5 S5 => simp only [e2] at h4; exact h4
      | rt d5 S5 => simp only [e2] at h4; exact h4
      | ex x5 ρ5 S5 => simp only [e2] at h4; exact h4
  · have e0 : ds.drop i = [] := List.drop_eq_nil_of_le (Nat.le_of_not_lt hlt)
    rw [e0] at h2
    exact .inl ⟨ok.stop κ m2 S2 H2 i (fun _ z => .inl z) x2 rl2 ck (Nat.le_of_not_lt hlt), h2 σ2 H2 m2 .refl rl2 re2⟩
theorem ds_for {tg iter : Expr} {body : List Stmt} {f : Env → Sto → Rs IDt} {g : GD} {fb : SD} (hp : PassesOwn (model X.prog X.w) X.A X.env X.xe) (hc : X.calm = true) (hi : DI X W tg iter f) (hg : DG X W tg g) (hb : DSs X W body fb)
    (hs : ∀ x, foldedSetIterable iter X.env x = pure x := by intro _; rfl) : DS X W (.For tg iter body [] pos) (sFor f g fb) := by
  obtain ⟨wi, pi, ii⟩ := hi
  obtain ⟨t, pg, ig⟩ := hg
  obtain ⟨tb, pb, ib⟩ := hb
  exact ⟨_, ps_for hp hc pi pg pb hs, imp_for ii ig ib⟩
end
end DL

namespace DL
open PySem PySem.Spec PyProof.Rows L2
/-! ### defs -/
abbrev FD := List D → Sto → Rs D
def PostF (K : Kh) (mg : Str → Option Value) (m : List Addr) (S : Sto) (H : Hp) (r : Rs D) (Q : VK) (E : XK) : Prop := match r with
  | .st => False
  | .ok d S' => ∀ v H' m', Nx K m S H m' S' H' → Rl K m' S' H' → RD K m' S' H' d v → Q v H'
  | .ex x S' => ∀ H' m' c dd, Nx K m S H m' S' H' → Rl K m' S' H' → RX mg K (lv K m' S') H' x c dd → E c dd H'
def spOf (K : PySem.W.Frag) (mg : Str → Option Value) (n : Nat) (g : FD) : Sp := fun vs H Q E => vs.length = n ∧ ∃ κ ds S m, Rl ⟨K, κ, mg⟩ m S H ∧ RDs ⟨K, κ, mg⟩ m S H ds vs ∧ PostF ⟨K, κ, mg⟩ mg m S H (g ds S) Q E
def noEx (r : Rs D) : Rs D := match r with
  | .ex _ _ => .st
  | r => r
@[simp] theorem noEx_ok (d : D) (S : Sto) : noEx (.ok d S) = .ok d S := rfl
/-- the def called x does g, by at most level k; it lets nothing out -/
structure FnD (P : Program) (w : World) (K : PySem.W.Frag) (mg : Str → Option Value) (base : Heap) (k : Nat) (x : Str) (n : Nat) (g : FD) : Prop where
  ex : ∃ (f : Addr) (fd : FuncData) (ps : List Str), ps.length = n ∧ mg x = some (.ref f) ∧ PySem.W.keepIn K (.ref f) = true ∧ Binds K fd ps [] ∧ FnOk P w K mg base CX0 k f fd ps (spOf K mg n fun ds S => noEx (g ds S))
/-- .. it may raise -/
structure FnX (P : Program) (w : World) (K : PySem.W.Frag) (mg : Str → Option Value) (base : Heap) (k : Nat) (x : Str) (n : Nat) (g : FD) : Prop where
  ex : ∃ (f : Addr) (fd : FuncData) (ps : List Str), ps.length = n ∧ mg x = some (.ref f) ∧ PySem.W.keepIn K (.ref f) = true ∧ Binds K fd ps [] ∧ FnOk P w K mg base (L2.CX P w) k f fd ps (spOf K mg n g)
/-- what stands in the end against what is told: things left behind are dropped -/
def Dn (S : Sto) (o : Out) (r : Rs D) : Prop := match r with
  | .st => True
  | .ok d S' => S.length ≤ S'.length ∧ ClS S'.length S' ∧ ClD S'.length d ∧ ((∃ T, o = .rt d (S' ++ T)) ∨ (d = .non ∧ ∃ ρ T, o = .nx ρ (S' ++ T)))
  | .ex x S' => S.length ≤ S'.length ∧ ClS S'.length S' ∧ ∃ ρ T, o = .ex x ρ (S' ++ T)
def start0 (N : List Str) (ds : List D) : Env := ds.map some ++ List.replicate (N.length - ds.length) none
section
variable {P : Program} {w : World} {K : PySem.W.Frag} {mg : Str → Option Value} {base : Heap}
theorem RE_start {K : Kh} {m : List Addr} {S : Sto} {H : Hp} {N : List Str} {ds : List D} {vs : List V} (r : RDs K m S H ds vs) : RE K m S H (start0 N ds) (L2.start N vs) := by
  unfold start0 L2.start
  rw [pairLen r]
  refine pairApp ?_ ?_
  · induction r with
    | nil => exact .nil
    | cons h _ ih => exact .cons (fun d e => by cases e; exact ⟨_, rfl, h⟩) ih
  · generalize N.length - vs.length = n
    induction n with
    | zero => exact .nil
    | succ n ih => exact .cons (fun d e => by cases e) ih
theorem post_of {X : Cx} {κ : Addr → Prop} {W : WX} {m : List Addr} {S : Sto} {H : Hp} {o : Out} {r : Rs D} {Q : VK} {E : XK} (rl : Rl (KX X κ) m S H) (dn : Dn S o r) (h : PostF (KX X κ) X.mg m S H r Q E) (hE : ∀ c dd σ H, E c dd H → W c dd σ H) :
    PostS X κ W m S H o { nx := fun _ H' => Q .non H', rt := Q } := by
  cases r with
  | st => exact h.elim
  | ok d S' =>
    obtain ⟨hl, cs, cd, dn⟩ := dn
    rcases dn with ⟨T, rfl⟩ | ⟨rfl, ρ, T, rfl⟩
    · exact fun v H' m' x rl' r => h v H' (m'.take S'.length) (x.drop rl rl' hl) (rl'.drop cs) (RD.drop r cd)
    · exact fun σ' H' m' x rl' r => h .non H' (m'.take S'.length) (x.drop rl rl' hl) (rl'.drop cs) RD.non_
  | ex y S' =>
    obtain ⟨hl, cs, ρ, T, rfl⟩ := dn
    refine fun σ' H' m' c dd x rl' re rx => hE c dd σ' H' (h H' (m'.take S'.length) c dd (x.drop rl rl' hl) (rl'.drop cs) ?_)
    exact rx
theorem Fun.dl {x : Str} {st : Stmt} {f : Addr} {fd : FuncData} {N ps : List Str} {k : Nat} {F : SD} {g : FD} (Fu : Fun K x x st f fd) (Sc : FnScope N ps (defScope st)) (gm : mg x = some (.ref f)) (bd : Binds K fd ps [])
    (body : ∀ (cdv : Value) (A : Around) (outer : List PySem.Env) (s : Shared) (H : Hp) (E : XK), Room k (A.deeper (envOfC x (defScope st) s.heap.objs.size f cdv)) →
      DSs (cxOf CX0 P w K mg base N x (defScope st) f cdv A outer s H E).nox (fun _ _ _ _ => False) (defBody st) F)
    (hg : ∀ ds S, ds.length = ps.length → ClS S.length S → (∀ d ∈ ds, ClD S.length d) → Dn S (F (start0 N ds) S) (g ds S)) : FnD P w K mg base (k + 1) x ps.length g := by
  refine ⟨f, fd, ps, rfl, gm, Fu.kp, bd, Fu.ok Sc (fun vs H Q E h => h.1) fun cdv A outer s H vs Q E hr h => ?_⟩
  obtain ⟨hl, κ, ds, S, m, rl, rd, po⟩ := h
  obtain ⟨t, pt, it⟩ := body cdv A outer s H E hr
  refine ⟨t, pt, it κ (start0 N ds) S (L2.start N vs) H m _ rl (RE_start rd) ?_⟩
  refine post_of (E := fun _ _ _ => False) rl (hg ds S ((pairLen rd).trans hl) rl.cl (fun d hd => ?_)) ?_ (fun _ _ _ _ z => z)
  · have := pairAll (F := RD ⟨K, κ, mg⟩ m S H) (P := ClD m.length) (fun _ _ q => q.cl) rd d hd
    rw [rl.len] at this
    exact this
  · have po : PostF ⟨K, κ, mg⟩ mg m S H (noEx (g ds S)) Q E := po
    cases e : g ds S with
    | st => rw [e] at po; exact po.elim
    | ok d S' => rw [e] at po; exact po
    | ex y S' => rw [e] at po; exact po.elim
/-- the same for a def that may raise -/
theorem Fun.dlX {x : Str} {st : Stmt} {f : Addr} {fd : FuncData} {N ps : List Str} {k : Nat} {F : SD} {g : FD} (Fu : Fun K x x st f fd) (Sc : FnScope N ps (defScope st)) (gm : mg x = some (.ref f)) (bd : Binds K fd ps [])
    (body : ∀ (cdv : Value) (A : Around) (outer : List PySem.Env) (s : Shared) (H : Hp) (E : XK), Room k (A.deeper (envOfC x (defScope st) s.heap.objs.size f cdv)) →
      DSs (cxOf (L2.CX P w) P w K mg base N x (defScope st) f cdv A outer s H E) (fun cls d _ H => E cls d H) (defBody st) F)
    (hg : ∀ ds S, ds.length = ps.length → ClS S.length S → (∀ d ∈ ds, ClD S.length d) → Dn S (F (start0 N ds) S) (g ds S)) : FnX P w K mg base (k + 1) x ps.length g := by
  refine ⟨f, fd, ps, rfl, gm, Fu.kp, bd, Fu.okX Sc (fun vs H Q E h => h.1) fun cdv A outer s H vs Q E hr h => ?_⟩
  obtain ⟨hl, κ, ds, S, m, rl, rd, po⟩ := h
  obtain ⟨t, pt, it⟩ := body cdv A outer s H E hr
  refine ⟨t, pt, it κ (start0 N ds) S (L2.start N vs) H m _ rl (RE_start rd) ?_⟩
  refine post_of (E := E) rl (hg ds S ((pairLen rd).trans hl) rl.cl (fun d hd => ?_)) po (fun _ _ _ _ z => z)
  have := pairAll (F := RD ⟨K, κ, mg⟩ m S H) (P := ClD m.length) (fun _ _ q => q.cl) rd d hd
  rw [rl.len] at this
  exact this
end
section
variable {X : Cx} {W : WX} {m m1 : List Addr} {S S1 : Sto} {H H1 : Hp} {σ : St} {ρ : Env} {κ : Addr → Prop}
variable {a b c e o : Expr} {pos : Pos} {fa fb fe fo : ED} {es : List Expr} {ga : AD}
/-! ### calls -/
def eCall (n : Nat) (g : FD) (ga : AD) : ED := fun ρ S => (ga ρ S).bind fun ds S1 => if ds.length = n then noEx (g ds S1) else .st
def eCallX (n : Nat) (g : FD) (ga : AD) : ED := fun ρ S => (ga ρ S).bind fun ds S1 => if ds.length = n then g ds S1 else .st
theorem PostF.of {r : Rs D} {Q : VK} (h : Post X κ W m S H σ (RD (KX X κ)) r Q) : PostF (KX X κ) X.mg m S H r Q (fun c dd H' => W c dd σ H') := by
  cases r with
  | st => exact h
  | ok d S' => exact h
  | ex x S' => exact h
theorem PostF.no {r : Rs D} {Q : VK} {E : XK} (h : Post X κ W m S H σ (RD (KX X κ)) (noEx r) Q) : PostF (KX X κ) X.mg m S H (noEx r) Q E := by
  cases r with
  | st => exact h
  | ok d S' => exact h
  | ex x S' => exact h.elim
theorem de_call {k j n : Nat} {x : Str} {p : Pos} {g : FD} (F : FnD X.prog X.w X.K X.mg X.base k x n g) (hr : Room j X.A) (hk : k ≤ j) (hg : Gl X x) (ha : DA X W (e :: es) ga)
    (hd : (x == ("__debug__" : Str)) = false := by decide) (hs : starEach (e :: es) X.env = (false, eval e X.env) :: starEach es X.env := by rfl)
    (hp : (backTo pos (starEach es X.env)).any (·.1) = false := by rfl) : DE X W (.Call (.Name x p) (e :: es) [] pos) (eCall n g ga) := by
  obtain ⟨f, fd, ps, hl, gm, kp, bd, ok⟩ := F
  obtain ⟨t, q, i⟩ := ha
  refine ⟨_, pe_call ok (hr.mono hk) hg gm kp bd .nil pass0 q hd hs hp, fun κ ρ S σ H m Q rl re h => ?_⟩
  refine i.seq rl re h fun d S1 v H1 m1 x1 rl1 re1 r1 h1 => ?_
  split at h1
  · rename_i hn
    rw [List.append_nil]
    exact ⟨by rw [← pairLen r1]; exact hn, κ, d, S1, m1, rl1, r1, PostF.no h1⟩
  · exact h1.elim
theorem de_callX {k j n : Nat} {x : Str} {p : Pos} {g : FD} (F : FnX X.prog X.w X.K X.mg X.base k x n g) (tk : Takes X W) (hr : Room j X.A) (hk : k ≤ j) (hg : Gl X x) (ha : DA X W (e :: es) ga)
    (hd : (x == ("__debug__" : Str)) = false := by decide) (hs : starEach (e :: es) X.env = (false, eval e X.env) :: starEach es X.env := by rfl)
    (hp : (backTo pos (starEach es X.env)).any (·.1) = false := by rfl) : DE X W (.Call (.Name x p) (e :: es) [] pos) (eCallX n g ga) := by
  obtain ⟨f, fd, ps, hl, gm, kp, bd, ok⟩ := F
  obtain ⟨t, q, i⟩ := ha
  refine ⟨_, pe_callS (E := WE W) ok (hr.mono hk) hg gm kp bd (fun σ => passAt tk σ) q hd hs hp, fun κ ρ S σ H m Q rl re h => ?_⟩
  refine i.seq rl re h fun d S1 v H1 m1 x1 rl1 re1 r1 h1 => ?_
  split at h1
  · rename_i hn
    exact ⟨by rw [← pairLen r1]; exact hn, κ, d, S1, m1, rl1, r1, PostF.of h1⟩
  · exact h1.elim
/-! built-ins, by values -/
def CD (X : Cx) (W : WX) (f : Value) (g : FD) : Prop :=
  ∃ r : List V → Hp → VK → Prop, CallR X f r ∧ ∀ κ ds vs m S H σ Q, Rl (KX X κ) m S H → RDs (KX X κ) m S H ds vs → Post X κ W m S H σ (RD (KX X κ)) (g ds S) Q → r vs H Q
def eB (g : FD) (ga : AD) : ED := fun ρ S => (ga ρ S).bind fun ds S1 => g ds S1
theorem de_callB {x : Str} {p : Pos} {id : String} {g : FD} (c : CD X W (.builtin id) g) (hg : Gl X x) (hm : X.mg x = none) (hv : bootBuiltins x = some (.builtin id)) (ha : DA X W (e :: es) ga)
    (hn : x ≠ "__name__" := by decide) (hd : (x == ("__debug__" : Str)) = false := by decide) (hs : starEach (e :: es) X.env = (false, eval e X.env) :: starEach es X.env := by rfl)
    (hp : (backTo pos (starEach es X.env)).any (·.1) = false := by rfl) : DE X W (.Call (.Name x p) (e :: es) [] pos) (eB g ga) := by
  obtain ⟨r, cr, hr⟩ := c
  obtain ⟨t, q, i⟩ := ha
  refine ⟨_, pe_callB cr hg hm hv q hn hd hs hp, fun κ ρ S σ H m Q rl re h => ?_⟩
  exact i.seq rl re h fun d S1 v H1 m1 x1 rl1 re1 r1 h1 => hr κ d v m1 S1 H1 σ Q rl1 r1 h1
theorem de_callT {x : Str} {p : Pos} {T : String} {g : FD} (c : CD X W (.type T) g) (hg : Gl X x) (hm : X.mg x = none) (hv : bootBuiltins x = some (.type T)) (ha : DA X W (e :: es) ga)
    (hn : x ≠ "__name__" := by decide) (hd : (x == ("__debug__" : Str)) = false := by decide) (hs : starEach (e :: es) X.env = (false, eval e X.env) :: starEach es X.env := by rfl)
    (hp : (backTo pos (starEach es X.env)).any (·.1) = false := by rfl) : DE X W (.Call (.Name x p) (e :: es) [] pos) (eB g ga) := by
  obtain ⟨r, cr, hr⟩ := c
  obtain ⟨t, q, i⟩ := ha
  refine ⟨_, pe_callTy cr hg hm hv q hn hd hs hp, fun κ ρ S σ H m Q rl re h => ?_⟩
  exact i.seq rl re h fun d S1 v H1 m1 x1 rl1 re1 r1 h1 => hr κ d v m1 S1 H1 σ Q rl1 r1 h1
/-- len -/
def gLen : FD := fun ds S => match ds with
  | [.p (.str z)] => if z.length ≤ sizeLine then .ok (.int z.length) S else .st
  | [.p (.tuple l)] => .ok (.int l.length) S
  | [d] => (match lItems S d with | some l => .ok (.int l.length) S | none => .st)
  | _ => .st
theorem cd_len : CD X W (.builtin "len") gLen := by
  refine ⟨_, call_len, fun κ ds vs m S H σ Q rl rd h => ?_⟩
  unfold gLen at h
  split at h
  · split at h
    · rename_i z hl
      obtain ⟨v, rfl, r⟩ := RDs1 rd
      exact ⟨v, z.length, rfl, by rw [r.str]; exact ⟨hl, rfl⟩, h.ok' .refl rl RD.int_⟩
    · exact h.elim
  · rename_i l
    obtain ⟨v, rfl, r⟩ := RDs1 rd
    obtain ⟨p, ws, rfl, h1, h2⟩ := r.tup'
    exact ⟨_, l.length, rfl, .inr ⟨ws, .of h1, RPs_len h2⟩, h.ok' .refl rl RD.int_⟩
  · split at h
    · rename_i l e
      obtain ⟨v, rfl, r⟩ := RDs1 rd
      obtain ⟨p, ws, rfl, h1, h2⟩ := r.items rl e
      exact ⟨_, l.length, rfl, .inl ⟨ws, h1, pairLen h2⟩, h.ok' .refl rl RD.int_⟩
    · exact h.elim
  · exact h.elim
/-- int(x) of an int, a bool -/
def gToInt : FD := fun ds S => match ds with
  | [.p (.int i)] => .ok (.int i) S
  | [.p (.bool b)] => .ok (.int (if b then 1 else 0)) S
  | _ => .st
theorem cd_int : CD X W (.type "int") gToInt := by
  refine ⟨_, call_int1, fun κ ds vs m S H σ Q rl rd h => ?_⟩
  unfold gToInt at h
  split at h
  · obtain ⟨v, rfl, r⟩ := RDs1 rd
    exact .inl ⟨_, by rw [r.int], h.ok' .refl rl RD.int_⟩
  · obtain ⟨v, rfl, r⟩ := RDs1 rd
    exact .inr ⟨_, by rw [r.bl], h.ok' .refl rl RD.int_⟩
  · exact h.elim
def gToStr : FD := fun ds S => match ds with
  | [.p (.int i)] => if i.natAbs.log2 < 1920 then .ok (.str (toString i)) S else .st
  | _ => .st
theorem cd_str : CD X W (.type "str") gToStr := by
  refine ⟨_, call_str_int, fun κ ds vs m S H σ Q rl rd h => ?_⟩
  unfold gToStr at h
  split at h
  · split at h
    · rename_i i hl
      obtain ⟨v, rfl, r⟩ := RDs1 rd
      exact ⟨i, by rw [r.int], hl, h.ok' .refl rl RD.str_⟩
    · exact h.elim
  · exact h.elim
def gMin2 : FD := fun ds S => match ds with
  | [.p (.int i), .p (.int j)] => .ok (.int (if j < i then j else i)) S
  | _ => .st
def gMax2 : FD := fun ds S => match ds with
  | [.p (.int i), .p (.int j)] => .ok (.int (if j > i then j else i)) S
  | _ => .st
theorem cd_min2 (hc : X.calm = true) : CD X W (.builtin "min") gMin2 := by
  refine ⟨_, call_min2 hc, fun κ ds vs m S H σ Q rl rd h => ?_⟩
  unfold gMin2 at h
  split at h
  · obtain ⟨v, v', rfl, r, r'⟩ := RDs2 rd
    exact ⟨_, _, by rw [r.int, r'.int], h.ok' .refl rl RD.int_⟩
  · exact h.elim
theorem cd_max2 (hc : X.calm = true) : CD X W (.builtin "max") gMax2 := by
  refine ⟨_, call_max2 hc, fun κ ds vs m S H σ Q rl rd h => ?_⟩
  unfold gMax2 at h
  split at h
  · obtain ⟨v, v', rfl, r, r'⟩ := RDs2 rd
    exact ⟨_, _, by rw [r.int, r'.int], h.ok' .refl rl RD.int_⟩
  · exact h.elim
/-- list(x), tuple(x) -/
def seqP (S : Sto) : D → Option (List PyData)
  | .p (.tuple l) => some l
  | d => vList S d
def gToList : FD := fun ds S => match ds with
  | [d] => (match seqP S d with | some l => .ok (.lst l) S | none => .st)
  | _ => .st
/-- .. a list that will change -/
def seqD (S : Sto) : D → Option (List D)
  | .p (.tuple l) => some (l.map .p)
  | d => lItems S d
def gToListO : FD := fun ds S => match ds with
  | [d] => (match seqD S d with | some l => .ok (.ob S.length) (S ++ [.lst l]) | none => .st)
  | _ => .st
def gToTup : FD := fun ds S => match ds with
  | [.p (.tuple l)] => .ok (.tup l) S
  | [d] => (match vList S d with | some l => .ok (.tup l) S | none => .st)
  | _ => .st
theorem RD.seqP {d : D} {v : V} {l : List PyData} (r : Rl (KX X κ) m S H) (h : RD (KX X κ) m S H d v) (e : DL.seqP S d = some l) : ∃ a vs, v = .ref a ∧ (SqL X.K H a vs ∨ SqT X.K H a vs) ∧ RPs (KX X κ) H (lv (KX X κ) m S) l vs := by
  unfold DL.seqP at e
  split at e
  · cases e
    obtain ⟨p, vs, rfl, h1, h2⟩ := h.tup'
    exact ⟨p, vs, rfl, .inr (.of h1), h2⟩
  · obtain ⟨p, vs, rfl, h1, h2⟩ := h.vlist r e
    exact ⟨p, vs, rfl, .inl (.of h1), h2⟩
theorem RD.seqD {d : D} {v : V} {l : List D} (r : Rl (KX X κ) m S H) (h : RD (KX X κ) m S H d v) (e : DL.seqD S d = some l) : ∃ a vs, v = .ref a ∧ (SqL X.K H a vs ∨ SqT X.K H a vs) ∧ RDs (KX X κ) m S H l vs := by
  unfold DL.seqD at e
  split at e
  · cases e
    obtain ⟨p, vs, rfl, h1, h2⟩ := h.tup
    exact ⟨p, vs, rfl, .inr (h1), h2⟩
  · obtain ⟨p, vs, rfl, h1, h2⟩ := h.items r e
    exact ⟨p, vs, rfl, .inl h1, h2⟩
theorem cd_list : CD X W (.type "list") gToList := by
  refine ⟨_, call_list_of, fun κ ds vs m S H σ Q rl rd h => ?_⟩
  unfold gToList at h
  split at h
  · split at h
    · rename_i l e
      obtain ⟨v, rfl, r⟩ := RDs1 rd
      obtain ⟨p, ws, rfl, h1, h2⟩ := r.seqP rl e
      exact ⟨p, ws, rfl, h1, fun z hz => h.ok' (.new rl hz) (rl.new hz) (newL rl hz h2)⟩
    · exact h.elim
  · exact h.elim
theorem cd_listO : CD X W (.type "list") gToListO := by
  refine ⟨_, call_list_of, fun κ ds vs m S H σ Q rl rd h => ?_⟩
  unfold gToListO at h
  split at h
  · split at h
    · rename_i l e
      obtain ⟨v, rfl, r⟩ := RDs1 rd
      obtain ⟨p, ws, rfl, h1, h2⟩ := r.seqD rl e
      exact ⟨p, ws, rfl, h1, fun z hz => h.ok' (.push rl hz) (rl.pushL hz h2) (RD.push rl)⟩
    · exact h.elim
  · exact h.elim
theorem cd_tuple : CD X W (.type "tuple") gToTup := by
  refine ⟨_, call_tuple_of, fun κ ds vs m S H σ Q rl rd h => ?_⟩
  unfold gToTup at h
  split at h
  · obtain ⟨v, rfl, r⟩ := RDs1 rd
    obtain ⟨p, ws, rfl, h1, h2⟩ := r.tup'
    exact ⟨p, ws, rfl, .inr ⟨.of h1, h.ok' .refl rl (tup_of h1 h2)⟩⟩
  · split at h
    · rename_i l e
      obtain ⟨v, rfl, r⟩ := RDs1 rd
      obtain ⟨p, ws, rfl, h1, h2⟩ := r.vlist rl e
      exact ⟨p, ws, rfl, .inl ⟨.of h1, fun z hz => h.ok' (.new rl hz) (rl.new hz) (newT rl hz h2)⟩⟩
    · exact h.elim
  · exact h.elim
/-- isinstance(x, T), T a built-in type -/
def tyN : PyData → String
  | .none => "NoneType"
  | .bool _ => "bool"
  | .int _ => "int"
  | .str _ => "str"
  | .list _ => "list"
  | .tuple _ => "tuple"
  | .dict _ => "dict"
def tyD (S : Sto) : D → Option String
  | .p (.dict _) => none
  | .p d => some (tyN d)
  | .ob n => (match S[n]? with | some (.lst _) => some "list" | some (.fz _) => some "list" | some (.dic _) => some "dict" | _ => none)
  | _ => none
def eIsi (T : String) (f : ED) : ED := fun ρ S => (f ρ S).bind fun d S1 => match tyD S1 d with
  | some t => (match kitB t T with | some b => .ok (.bl b) S1 | none => .st)
  | none => .st
theorem RD.ty {d : D} {v : V} {t : String} (rl : Rl (KX X κ) m S H) (h : RD (KX X κ) m S H d v) (e : tyD S d = some t) : TyX X.K H v (.type t) := by
  unfold tyD at e
  split at e
  · cases e
  · rename_i d _
    cases e
    have h : RP _ _ _ _ _ := h
    cases d with
    | none => rw [RP] at h; subst h; exact .base .non
    | bool b => rw [RP] at h; subst h; exact .base (.bl b)
    | int i => rw [RP] at h; subst h; exact .base (.int i)
    | str x => rw [RP] at h; subst h; exact .base (.str x)
    | list l =>
      rw [RP] at h
      obtain ⟨a, vs, rfl, h1, _⟩ := h
      exact .base (.lst h1)
    | tuple l =>
      rw [RP] at h
      obtain ⟨a, vs, rfl, h1, _⟩ := h
      exact .base (.tup h1)
    | dict _ => rw [RP] at h; exact h.elim
  · obtain ⟨a, em, rfl⟩ := h
    split at e
    · rename_i es
      cases e
      obtain ⟨vs, h1, _⟩ := rl.obj _ a _ em es
      exact .base (.lst h1)
    · rename_i es
      cases e
      obtain ⟨vs, h1, _⟩ := rl.obj _ a _ em es
      exact .base (.lst h1)
    · rename_i es
      cases e
      obtain ⟨vs, h1, _⟩ := rl.obj _ a _ em es
      exact .base (.dT h1)
    · cases e
  · cases e
theorem de_isi {T : String} {x : Str} {p p2 : Pos} (hg : Gl X "isinstance") (hm : X.mg "isinstance" = none) (hgT : Gl X x) (hmT : X.mg x = none) (hvT : bootBuiltins x = some (.type T)) (he : DE X W e fe)
    (hv : bootBuiltins "isinstance" = some (.builtin "isinstance") := by decide +kernel) (hnT : x ≠ "__name__" := by decide) (hdT : (x == ("__debug__" : Str)) = false := by decide)
    (hs1 : starEach [e, .Name x p2] X.env = (false, eval e X.env) :: starEach [.Name x p2] X.env := by rfl) (hs2 : starEach [.Name x p2] X.env = (false, eval (.Name x p2) X.env) :: starEach [] X.env := by rfl)
    (hp : (backTo pos (starEach [.Name x p2] X.env)).any (·.1) = false := by rfl) :
    DE X W (.Call (.Name "isinstance" p) [e, .Name x p2] [] pos) (eIsi T fe) := by
  obtain ⟨t, q, i⟩ := he
  refine ⟨_, pe_callB call_isi hg hm hv (pa_cons q (pa_cons (pe_bltn (v := .ty T) hgT hmT hvT rfl hnT hdT) pa_nil hs2) hs1) (by decide) (by decide) hs1 hp, fun κ ρ S σ H m Q rl re h => ?_⟩
  refine i.seq rl re h fun d S1 v H1 m1 x1 rl1 re1 r1 h1 => ?_
  split at h1
  · rename_i t et
    split at h1
    · rename_i k ek
      exact ⟨v, .ty T, _, _, k, rfl, .ty T, r1.ty rl1 et, kit_ty ek, h1.ok' .refl rl1 RD.bl_⟩
    · exact h1.elim
  · exact h1.elim
end
end DL

namespace DL
open PySem PySem.Spec PyProof.Rows L2
section
variable {X : Cx} {W : WX} {m m1 : List Addr} {S S1 : Sto} {H H1 : Hp} {σ : St} {ρ : Env} {κ : Addr → Prop}
variable {a b c e o : Expr} {pos apos : Pos} {fa fb fe fo : ED} {es : List Expr} {ga : AD}
/-! ### methods -/
theorem ty_list {n : Nat} {v : V} {l : List D} (rl : Rl (KX X κ) m S H) (h : RD (KX X κ) m S H (.ob n) v) (es : S[n]? = some (.lst l)) : tyV X.K "list" v H := by
  obtain ⟨a, em, rfl⟩ := h
  obtain ⟨vs, q, _⟩ := rl.obj n a _ em es
  exact .inl ⟨rfl, vs, .of q⟩
/-- a list that stays one, wherever it is looked at -/
def isLst (S : Sto) : D → Bool
  | .p (.list _) => true
  | .ob n => (match S[n]? with | some (.lst _) => true | some (.fz _) => true | _ => false)
  | _ => false
theorem RD.isl {d : D} {v : V} (rl : Rl (KX X κ) m S H) (h : RD (KX X κ) m S H d v) (e : isLst S d = true) : tyV X.K "list" v H := by
  unfold isLst at e
  split at e
  · obtain ⟨a, vs, rfl, h1, _⟩ := h.lst
    exact .inl ⟨rfl, vs, .of h1⟩
  · obtain ⟨a, em, rfl⟩ := h
    split at e
    · rename_i es
      obtain ⟨vs, q, _⟩ := rl.obj _ a _ em es
      exact .inl ⟨rfl, vs, .of q⟩
    · rename_i es
      obtain ⟨vs, q, _⟩ := rl.obj _ a _ em es
      exact .inl ⟨rfl, vs, .of q⟩
    · cases e
  · cases e
/-- a method of a built-in type, by values: g of the receiver and the arguments -/
def MD (X : Cx) (W : WX) (id : String) (g : D → FD) : Prop :=
  ∃ r : V → List V → Hp → VK → Prop, MtR X id r ∧ ∀ κ x vx ds vs m S H σ Q, Rl (KX X κ) m S H → RD (KX X κ) m S H x vx → RDs (KX X κ) m S H ds vs → Post X κ W m S H σ (RD (KX X κ)) (g x ds S) Q → r vx vs H Q
def eMth (g : D → FD) (fo : ED) (ga : AD) : ED := fun ρ S => (fo ρ S).bind fun d S1 => if isLst S1 d = true then (ga ρ S1).bind fun ds S2 => g d ds S2 else .st
theorem de_mth {name : Str} {id : String} {g : D → FD} (md : MD X W id g) (slot : Slot "list" name id) (hty : typeOf (.builtin id) = pure (.type "method_descriptor")) (ho : DE X W o fo) (ha : DA X W (e :: es) ga)
    (hb : attributeBase o name X.env (eval o X.env) = eval o X.env := by rfl)
    (h1 : ((backTo pos (starEach (e :: es) X.env)).all (!·.1) && (backToKw pos (keywordEach [] X.env)).all (·.1.isSome) && decide ((e :: es).length + ([] : List Keyword).length + (if ([] : List Keyword).isEmpty then 0 else 1) < 30)) = true := by rfl)
    (h2 : (apos.endLine == pos.line) = true := by rfl) (hs : starEach (e :: es) X.env = (false, eval e X.env) :: starEach es X.env := by rfl) (hp : (backTo pos (starEach es X.env)).any (·.1) = false := by rfl) :
    DE X W (.Call (.Attribute o name apos) (e :: es) [] pos) (eMth g fo ga) := by
  obtain ⟨r, mr, hr⟩ := md
  obtain ⟨t1, p1, i1⟩ := ho
  obtain ⟨t2, p2, i2⟩ := ha
  refine ⟨_, pe_bm PySem.F.plainAttrs_list slot hty mr p1 p2 hb h1 h2 hs hp, fun κ ρ S σ H m Q rl re h => ?_⟩
  refine i1.seq rl re h fun d S1 v H1 m1 x1 rl1 re1 r1 h1 => ?_
  split at h1
  · rename_i el
    refine ⟨r1.isl rl1 el, ?_⟩
    refine i2.seq rl1 re1 h1 fun ds S2 vs H2 m2 x2 rl2 re2 r2 h2 => ?_
    exact hr κ d v ds vs m2 S2 H2 σ Q rl2 (r1.nx x2) r2 h2
  · exact h1.elim
theorem de_mth0 {name : Str} {id : String} {g : D → FD} (md : MD X W id g) (slot : Slot "list" name id) (hty : typeOf (.builtin id) = pure (.type "method_descriptor")) (ho : DE X W o fo)
    (hb : attributeBase o name X.env (eval o X.env) = eval o X.env := by rfl) (h2 : (apos.endLine == pos.line) = true := by rfl) :
    DE X W (.Call (.Attribute o name apos) [] [] pos) (eMth g fo aNil) := by
  obtain ⟨r, mr, hr⟩ := md
  obtain ⟨t1, p1, i1⟩ := ho
  refine ⟨_, pe_bm0 PySem.F.plainAttrs_list slot hty mr p1 hb h2, fun κ ρ S σ H m Q rl re h => ?_⟩
  refine i1.seq rl re h fun d S1 v H1 m1 x1 rl1 re1 r1 h1 => ?_
  split at h1
  · rename_i el
    exact ⟨r1.isl rl1 el, hr κ d v [] [] m1 S1 H1 σ Q rl1 r1 .nil h1⟩
  · exact h1.elim
theorem RDs_snoc {l : List D} {vs : List V} {d : D} {v : V} (h : RDs (KX X κ) m S H l vs) (h2 : RD (KX X κ) m S H d v) : RDs (KX X κ) m S H (l ++ [d]) (vs ++ [v]) := pairApp h (.cons h2 .nil)
/-- the list that changes, where it is one -/
def oLst (S : Sto) : D → Option (Nat × List D)
  | .ob n => (match S[n]? with | some (.lst l) => some (n, l) | _ => none)
  | _ => none
theorem oLst_some {S : Sto} {d : D} {n : Nat} {l : List D} (h : oLst S d = some (n, l)) : d = .ob n ∧ S[n]? = some (.lst l) := by
  unfold oLst at h
  split at h
  · split at h
    · rename_i es
      cases h
      exact ⟨rfl, es⟩
    · cases h
  · cases h
/-- xs.append(x) -/
def gApp : D → FD := fun d ds S => match ds with
  | [x] => (match restD x S with
    | some (p, S2) => (match oLst S2 d with
      | some (n, l) => if l.length < sizeLine then .ok .non (S2.set n (.lst (l ++ [.p p]))) else .st
      | none => .st)
    | none => .st)
  | _ => .st
theorem md_append : MD X W "list.append" gApp := by
  refine ⟨_, mt_append, fun κ x vx ds vs m S H σ Q rl rx rd h => ?_⟩
  unfold gApp at h
  split at h
  · obtain ⟨v, rfl, r⟩ := RDs1 rd
    split at h
    · rename_i p S2 ep
      obtain ⟨rl2, x2, r2⟩ := r.restD rl ep
      split at h
      · rename_i n l en
        obtain ⟨rfl, es⟩ := oLst_some en
        split at h
        · rename_i hl
          obtain ⟨a, em, rfl⟩ := rx
          obtain ⟨ws, q1, q2⟩ := rl2.obj n a _ em es
          refine ⟨a, ws, v, rfl, rfl, q1, by rw [← pairLen q2]; exact hl, ?_⟩
          exact h.ok' (x2.trans (Nx.put rl2 em es rfl)) (rl2.putL em es (RDs_snoc q2 r2)) RD.non_
        · exact h.elim
      · exact h.elim
    · exact h.elim
  · exact h.elim
/-- xs.extend(ys) -/
def gExt : D → FD := fun d ds S => match ds with
  | [y] => (match vList S y with
    | some l2 => (match oLst S d with
      | some (n, l) => if l.length + l2.length ≤ sizeLine then .ok .non (S.set n (.lst (l ++ l2.map .p))) else .st
      | none => .st)
    | none => .st)
  | _ => .st
theorem md_extend : MD X W "list.extend" gExt := by
  refine ⟨_, mt_extend, fun κ x vx ds vs m S H σ Q rl rx rd h => ?_⟩
  unfold gExt at h
  split at h
  · obtain ⟨v, rfl, r⟩ := RDs1 rd
    split at h
    · rename_i l2 el
      obtain ⟨b, ys, rfl, hb, r2⟩ := r.vlist rl el
      split at h
      · rename_i n l en
        obtain ⟨rfl, es⟩ := oLst_some en
        split at h
        · rename_i hl
          obtain ⟨a, em, rfl⟩ := rx
          obtain ⟨ws, q1, q2⟩ := rl.obj n a _ em es
          refine ⟨a, b, ws, ys, rfl, rfl, q1, hb, by rw [← pairLen q2, ← RPs_len r2]; exact hl, ?_⟩
          exact h.ok' (Nx.put rl em es rfl) (rl.putL em es (pairApp q2 (RDs_p.mpr r2))) RD.non_
        · exact h.elim
      · exact h.elim
    · exact h.elim
  · exact h.elim
/-- xs.pop() -/
def gPopL : D → FD := fun d ds S => match ds with
  | [] => (match oLst S d with
    | some (n, l) => (match l[l.length - 1]? with
      | some y => .ok y (S.set n (.lst l.dropLast))
      | none => .st)
    | none => .st)
  | _ => .st
theorem pairDropLast {α β : Type} {F : α → β → Prop} {l : List α} {r : List β} (q : Paired F l r) : Paired F l.dropLast r.dropLast := by
  rw [List.dropLast_eq_take, List.dropLast_eq_take, pairLen q]
  exact pairTake q _
theorem md_pop : MD X W "list.pop" gPopL := by
  refine ⟨_, mt_pop, fun κ x vx ds vs m S H σ Q rl rx rd h => ?_⟩
  unfold gPopL at h
  split at h
  · cases rd
    split at h
    · rename_i n l en
      obtain ⟨rfl, es⟩ := oLst_some en
      split at h
      · rename_i y ey
        obtain ⟨a, em, rfl⟩ := rx
        obtain ⟨ws, q1, q2⟩ := rl.obj n a _ em es
        obtain ⟨z, ez, rz⟩ := pairGet q2 ey
        refine ⟨a, ws, z, rfl, rfl, q1, by rw [← pairLen q2]; exact ez, ?_⟩
        have x2 := Nx.put (o' := .lst l.dropLast) (ho := .lst ws.dropLast) rl em es rfl
        exact h.ok' x2 (rl.putL em es (pairDropLast q2)) (rz.nx x2)
      · exact h.elim
    · exact h.elim
  · exact h.elim
/-- xs.reverse() -/
def gRevL : D → FD := fun d ds S => match ds with
  | [] => (match oLst S d with
    | some (n, l) => .ok .non (S.set n (.lst l.reverse))
    | none => .st)
  | _ => .st
theorem md_reverse : MD X W "list.reverse" gRevL := by
  refine ⟨_, mt_reverse, fun κ x vx ds vs m S H σ Q rl rx rd h => ?_⟩
  unfold gRevL at h
  split at h
  · cases rd
    split at h
    · rename_i n l en
      obtain ⟨rfl, es⟩ := oLst_some en
      obtain ⟨a, em, rfl⟩ := rx
      obtain ⟨ws, q1, q2⟩ := rl.obj n a _ em es
      exact ⟨a, ws, rfl, rfl, q1, h.ok' (Nx.put rl em es rfl) (rl.putL em es (pairRev q2)) RD.non_⟩
    · exact h.elim
  · exact h.elim
/-- xs.index(x): data -/
def gIdx : D → FD := fun d ds S => match ds with
  | [y] => (match vList S d, pNow S y with
    | some l, some p => if SeqAt.shaped (.list l) = true ∧ SeqAt.shaped p = true then (match l.findIdx? (fun z => PyData.eqv z p) with
      | some j => .ok (.int j) S
      | none => .st) else .st
    | _, _ => .st)
  | _ => .st
theorem md_index (hu : X.A.units + 65 < cLine) : MD X W "list.index" gIdx := by
  refine ⟨_, mt_indexD hu, fun κ x vx ds vs m S H σ Q rl rx rd h => ?_⟩
  unfold gIdx at h
  split at h
  · obtain ⟨v, rfl, r⟩ := RDs1 rd
    split at h
    · rename_i l p el ep
      split at h
      · rename_i hs
        split at h
        · rename_i j ej
          obtain ⟨a, ws, rfl, h1, h2⟩ := rx.vlist rl el
          obtain ⟨hj, e1, e2⟩ := List.findIdx?_eq_some_iff_getElem.mp ej
          refine ⟨a, v, p, l, j, l[j], rfl, rfl, .lst (.of h1) (RPs.dp _ _ h2), r.now rl ep, hs.1, hs.2, List.getElem?_eq_getElem hj, e1, fun k z hk ez => ?_, h.ok' .refl rl RD.int_⟩
          obtain ⟨h3, e3⟩ := List.getElem?_eq_some_iff.mp ez
          have := e2 k hk
          rw [e3] at this
          simpa using this
        · exact h.elim
      · exact h.elim
    · exact h.elim
  · exact h.elim
/-! texts' methods -/
def strsP : List PyData → Option (List Str)
  | [] => some []
  | .str z :: l => (strsP l).map (z :: ·)
  | _ :: _ => none
theorem strsP_some {κ : Kh} {L : Addr → Prop} : ∀ {l : List PyData} {zs : List Str} {vs : List V}, strsP l = some zs → RPs κ H L l vs → vs = zs.map V.str
  | [], zs, vs, h, r => by
    cases h
    rw [RPs] at r
    exact r
  | .str z :: l, zs, vs, h, r => by
    simp only [strsP, Option.map_eq_some_iff] at h
    obtain ⟨zs', h1, rfl⟩ := h
    rw [RPs] at r
    obtain ⟨v, vs', rfl, r1, r2⟩ := r
    rw [RP] at r1
    rw [r1, strsP_some h1 r2]
    rfl
def eJoin (fo fe : ED) : ED := fun ρ S => (fo ρ S).bind fun d S1 => match d with
  | .p (.str a) => (fe ρ S1).bind fun x S2 => (match seqP S2 x with
    | some l => (match strsP l with
      | some zs => if (zs.map (·.length)).sum + zs.length * a.length ≤ 16777216 then .ok (.str (Txt.join a zs)) S2 else .st
      | none => .st)
    | none => .st)
  | _ => .st
theorem de_join (ho : DE X W o fo) (he : DE X W e fe) (hs : starEach [e] X.env = [(false, eval e X.env)] := by rfl) (hb : attributeBase o "join" X.env (eval o X.env) = eval o X.env := by rfl) (hl : (apos.endLine == pos.line) = true := by rfl) :
    DE X W (.Call (.Attribute o "join" apos) [e] [] pos) (eJoin fo fe) := by
  obtain ⟨t1, p1, i1⟩ := ho
  obtain ⟨t2, p2, i2⟩ := he
  refine ⟨_, pe_join p1 p2 hs hb hl, fun κ ρ S σ H m Q rl re h => ?_⟩
  refine i1.seq rl re h fun d S1 v H1 m1 x1 rl1 re1 r1 h1 => ?_
  split at h1
  · rename_i a
    refine ⟨⟨a, r1.str⟩, ?_⟩
    refine i2.seq rl1 re1 h1 fun d2 S2 v2 H2 m2 x2 rl2 re2 r2 h2 => ?_
    split at h2
    · rename_i l el
      split at h2
      · rename_i zs ez
        split at h2
        · rename_i hz
          obtain ⟨p, vs, rfl, q1, q2⟩ := r2.seqP rl2 el
          have := strsP_some ez q2
          subst this
          exact ⟨a, p, zs, r1.str, rfl, q1, hz, h2.ok' .refl rl2 RD.str_⟩
        · exact h2.elim
      · exact h2.elim
    · exact h2.elim
  · exact h1.elim
end
end DL

namespace DL
open PySem PySem.Spec PyProof.Rows L2
section
variable {X : Cx} {W : WX} {m m1 : List Addr} {S S1 : Sto} {H H1 : Hp} {σ : St} {ρ : Env} {κ : Addr → Prop}
variable {a b c e o : Expr} {pos apos : Pos} {fa fb fe fo : ED} {es : List Expr} {ga : AD}
def flatD : PyData → Bool
  | .none => true
  | .bool _ => true
  | .int _ => true
  | .str _ => true
  | _ => false
/-- in a text (one sign), a list (data), a tuple (flat) -/
def gIn (neg : Bool) : D → D → Sto → Rs D := fun x y S => match x, y with
  | .p (.str t), .p (.str z) => (match t.cps.toList with
    | [c] => .ok (.bl (neg ^^ decide (c ∈ z.cps.toList))) S
    | _ => .st)
  | x, y => (match pNow S x, seqP S y with
    | some p, some l => if flatD p = true ∧ l.all flatD = true then .ok (.bl (neg ^^ l.any fun z => PyData.eqv z p)) S
        else if (vList S y).isSome = true ∧ SeqAt.shaped p = true ∧ SeqAt.shaped (.list l) = true then .ok (.bl (neg ^^ l.any fun z => PyData.eqv z p)) S else .st
    | _, _ => .st)
theorem flat_now {K : PySem.W.Frag} {d : PyData} {v : V} (h : Dp K H v d) (f : flatD d = true) : flatV v = true := by
  cases h <;> first | rfl | cases f
theorem eqv_now {K : PySem.W.Frag} {d d' : PyData} {v v' : V} (h : Dp K H v d) (h' : Dp K H v' d') (f : flatD d = true) (f' : flatD d' = true) : eqV v v' = PyData.eqv d d' := by
  cases h <;> cases h' <;> first | (cases f; done) | (cases f'; done) | rfl | simp [eqV, PyData.eqv, Bool.beq_eq_decide_eq]
theorem dps_pair {K : PySem.W.Frag} : ∀ {l : List PyData} {vs : List V}, DpAll K H vs l → Paired (fun d v => Dp K H v d) l vs
  | [], _, .nil => .nil
  | _ :: _, _, .cons h t => .cons h (dps_pair t)
theorem any_now {K : PySem.W.Frag} {p : PyData} {v : V} (h : Dp K H v p) (f : flatD p = true) : ∀ {l : List PyData} {vs : List V}, Paired (fun d v => Dp K H v d) l vs → l.all flatD = true → vs.all flatV = true ∧ inV v vs = l.any fun z => PyData.eqv z p
  | [], _, .nil, _ => ⟨rfl, rfl⟩
  | d :: l, _, .cons q t, e => by
    rw [List.all_cons, Bool.and_eq_true] at e
    obtain ⟨e1, e2⟩ := e
    obtain ⟨i1, i2⟩ := any_now h f t e2
    refine ⟨by rw [List.all_cons, flat_now q e1, i1]; rfl, ?_⟩
    unfold inV at i2 ⊢
    rw [List.any_cons, List.any_cons, i2, eqv_now q h e1 f]
theorem str_one {t : Str} {c : Nat} (h : t.cps.toList = [c]) : t = ⟨#[c]⟩ := by
  obtain ⟨⟨l⟩⟩ := t
  have : l = [c] := h
  rw [this]
theorem seq_vl {y : D} {l l' : List PyData} (h : seqP S y = some l) (h' : vList S y = some l') : l = l' := by
  unfold seqP at h
  split at h
  · cases h'
  · rw [h] at h'; exact Option.some.inj h'
theorem in_core {neg : Bool} {x y : D} {vx vy : V} {Q : VK} (rl : Rl (KX X κ) m S H) (rx : RD (KX X κ) m S H x vx) (ry : RD (KX X κ) m S H y vy) (h : Post X κ W m S H σ (RD (KX X κ)) (gIn neg x y S) Q) :
    (∃ (c : Nat) (z : Str), vx = .str ⟨#[c]⟩ ∧ vy = .str z ∧ Q (.bl (neg ^^ decide (c ∈ z.cps.toList))) H) ∨ rIn X.K neg vx vy H Q ∨
      ∃ d ds, Dp X.K H vx d ∧ Dp X.K H vy (.list ds) ∧ SeqAt.shaped d = true ∧ SeqAt.shaped (.list ds) = true ∧ Q (.bl (neg ^^ ds.any fun z => PyData.eqv z d)) H := by
  unfold gIn at h
  split at h
  · split at h
    · rename_i c ec
      exact .inl ⟨c, _, by rw [rx.str, str_one ec], ry.str, h.ok' .refl rl RD.bl_⟩
    · exact h.elim
  · split at h
    · rename_i p l ep el
      have dp := rx.now rl ep
      split at h
      · rename_i hf
        obtain ⟨q, vs, rfl, q1, q2⟩ := ry.seqP rl el
        obtain ⟨i1, i2⟩ := any_now dp hf.1 (dps_pair (RPs.dp _ _ q2)) hf.2
        refine .inr (.inl ⟨q, vs, rfl, q1, flat_now dp hf.1, i1, ?_⟩)
        rw [i2]
        have := h.ok' .refl rl RD.bl_
        cases neg with
        | true => rw [if_pos rfl]; simpa using this
        | false => rw [if_neg Bool.false_ne_true]; simpa using this
      · split at h
        · rename_i hs
          obtain ⟨l', el'⟩ := Option.isSome_iff_exists.mp hs.1
          have := seq_vl el el'
          subst this
          obtain ⟨q, vs, rfl, q1, q2⟩ := ry.vlist rl el'
          exact .inr (.inr ⟨p, l, dp, .lst (.of q1) (RPs.dp _ _ q2), hs.2.1, hs.2.2, h.ok' .refl rl RD.bl_⟩)
        · exact h.elim
    · exact h.elim
theorem od_in (hu : X.A.units + 65 < cLine) : OpD X W (compareOp .In) (gIn false) := by
  refine ⟨_, OpR.or op_in_sign (OpR.or op_in_seq (op_inD hu)), fun κ x y vx vy m S H σ Q rl rx ry h => ?_⟩
  rcases in_core rl rx ry h with ⟨c, z, e1, e2, q⟩ | q | ⟨d, ds, h1, h2, h3, h4, q⟩
  · exact .inl ⟨c, z, e1, e2, by simpa using q⟩
  · exact .inr (.inl q)
  · exact .inr (.inr ⟨d, ds, h1, h2, h3, h4, by simpa using q⟩)
theorem od_notin (hu : X.A.units + 65 < cLine) : OpD X W (compareOp .NotIn) (gIn true) := by
  refine ⟨_, OpR.or op_notIn_sign (OpR.or op_notIn_seq (op_notInD hu)), fun κ x y vx vy m S H σ Q rl rx ry h => ?_⟩
  rcases in_core rl rx ry h with ⟨c, z, e1, e2, q⟩ | q | ⟨d, ds, h1, h2, h3, h4, q⟩
  · exact .inl ⟨c, z, e1, e2, by simpa using q⟩
  · exact .inr (.inl q)
  · exact .inr (.inr ⟨d, ds, h1, h2, h3, h4, by simpa using q⟩)

/-! ### comprehensions -/
/-- the weakest reading that computes f -/
def can (X : Cx) (W : WX) {α β : Type} (R : Kh → List Addr → Sto → Hp → α → β → Prop) (f : Env → Sto → Rs α) : St → Hp → (β → Hp → Prop) → Prop := fun σ H Q =>
  ∃ κ ρ S m, Rl (KX X κ) m S H ∧ RE (KX X κ) m S H ρ σ ∧ Post X κ W m S H σ (R (KX X κ)) (f ρ S) Q
theorem DE.can (h : DE X W e fe) : PE X e (can X W RD fe) := by
  obtain ⟨t, p, i⟩ := h
  exact ⟨fun pins s σ H Q I ⟨κ, ρ, S, m, rl, re, h⟩ => p.run pins s σ H Q I (i κ ρ S σ H m Q rl re h)⟩
theorem DT.can {c : Expr} {f : BD} (h : DT X W c f) : PT X c (can X W RB f) := by
  obtain ⟨t, p, i⟩ := h
  exact ⟨fun pins s σ H Q I ⟨κ, ρ, S, m, rl, re, h⟩ => p.run pins s σ H Q I (i κ ρ S σ H m Q rl re h)⟩
/-- the tests of a comprehension -/
structure DTs (X : Cx) (W : WX) (ifs : List Expr) (f : BD) : Prop where
  run : PTs X ifs (DL.can X W RB f)
def bYes : BD := fun _ S => .ok true S
theorem dts_nil : DTs X W [] bYes := ⟨⟨fun pins s σ H Q I ⟨κ, ρ, S, m, rl, re, h⟩ => pts_nil.run pins s σ H Q I (h.ok' .refl rl rfl)⟩⟩
theorem dts_one {c : Expr} {f : BD} (h : DT X W c f) : DTs X W [c] f := ⟨pts_one h.can⟩
/-- a target that sets nothing but the slots vs -/
def canG (X : Cx) (vs : List Nat) (g : GD) : TG := fun v σ H Q => ∃ κ d ρ S m, Rl (KX X κ) m S H ∧ RE (KX X κ) m S H ρ σ ∧ RD (KX X κ) m S H d v ∧
  (match g d ρ S with
  | .ok ρ' S' => ∀ σ' H' m', Nx (KX X κ) m S H m' S' H' → Rl (KX X κ) m' S' H' → RE (KX X κ) m' S' H' ρ' σ' → wipe σ' vs = wipe σ vs → Q σ' H'
  | _ => False)
structure DGw (X : Cx) (tg : Expr) (vs : List Nat) (g : GD) : Prop where
  run : PG X tg (canG X vs g)
theorem wipe_set {σ : St} {i : Nat} {x : Option V} : ∀ {vs : List Nat}, i ∈ vs → wipe (σ.set i x) vs = wipe σ vs
  | v :: vs, h => by
    unfold wipe
    by_cases hv : i ∈ vs
    · rw [wipe_set hv]
    · have e : i = v := (List.mem_cons.mp h).resolve_right hv
      subst e
      clear h
      have key : ∀ vs : List Nat, i ∉ vs → wipe (σ.set i x) vs = (wipe σ vs).set i x := by
        intro vs
        induction vs with
        | nil => intro _; rfl
        | cons u us ih =>
          intro hn
          unfold wipe
          rw [ih fun z => hn (List.mem_cons_of_mem _ z)]
          rw [List.set_comm _ _ (fun z => hn (by rw [z]; exact List.mem_cons_self))]
      rw [key vs hv, List.set_set]
theorem dgw_name {i : Nat} {x : Str} {vs : List Nat} (hN : X.N.Nodup) (hi : X.N[i]? = some x) (hx : Loc X.env.scope x) (hv : i ∈ vs) (hf : X.fn x = true ∨ X.env.scope.names.lookup x = some .local := by first | exact .inl rfl | exact .inr rfl | assumption) : DGw X (.Name x pos) vs (gNm i) :=
  ⟨⟨fun pins s σ H v u Q I r ⟨κ, d, ρ, S, m, rl, re, rd, h⟩ => (pg_name hN hi hx hf).run pins s σ H v u Q I r (h _ H m .refl rl (pairSet re fun d' e => ⟨v, rfl, by cases e; exact rd⟩) (wipe_set hv))⟩⟩
/-- (a, b, ..) of names -/
def gNms : List Nat → GDs
  | [] => gsNil
  | i :: is => gsCons (gNm i) (gNms is)
theorem canGs_names {is vs : List Nat} (hv : ∀ i ∈ is, i ∈ vs) : ∀ {ds : List D} {ws : List V} {ρ : Env} {S : Sto} {σ : St} {H : Hp} {m : List Addr} {Q : St → Hp → Prop}, Rl (KX X κ) m S H → RE (KX X κ) m S H ρ σ → RDs (KX X κ) m S H ds ws →
    (match gNms is ds ρ S with
    | .ok ρ' S' => ∀ σ' H' m', Nx (KX X κ) m S H m' S' H' → Rl (KX X κ) m' S' H' → RE (KX X κ) m' S' H' ρ' σ' → wipe σ' vs = wipe σ vs → Q σ' H'
    | _ => False) → (is.foldr (fun i t => gCons (gName i) t) gNil) ws σ H Q := by
  induction is with
  | nil =>
    intro ds ws ρ S σ H m Q rl re rd h
    cases rd with
    | nil => exact ⟨rfl, h σ H m .refl rl re rfl⟩
    | cons _ _ => exact h.elim
  | cons i is ih =>
    intro ds ws ρ S σ H m Q rl re rd h
    cases rd with
    | nil => exact h.elim
    | cons q1 q2 =>
      rename_i d v ds ws
      refine ⟨v, ws, rfl, ?_⟩
      have re' : RE (KX X κ) m S H (ρ.set i (some d)) (σ.set i (some v)) := pairSet re fun d' e => ⟨v, rfl, by cases e; exact q1⟩
      refine ih (fun j hj => hv j (List.mem_cons_of_mem _ hj)) rl re' q2 ?_
      have e : gNms (i :: is) (d :: ds) ρ S = gNms is ds (ρ.set i (some d)) S := rfl
      rw [e] at h
      cases e2 : gNms is ds (ρ.set i (some d)) S with
      | st => rw [e2] at h; exact h.elim
      | ex _ _ => rw [e2] at h; exact h.elim
      | ok ρ' S' =>
        rw [e2] at h
        exact fun σ' H' m' x rl' re' wp => h σ' H' m' x rl' re' (wp.trans (wipe_set (hv i List.mem_cons_self)))
theorem dgw_tup {es : List Expr} {k n : Nat} {is vs : List Nat} (hc : X.calm = true) (hp : PGs X es (is.foldr (fun i t => gCons (gName i) t) gNil)) (hv : ∀ i ∈ is, i ∈ vs) (hn : (assignEach es X.env).length = n := by rfl) (hst : (assignEach es X.env).findIdx? (·.1) = none := by rfl) :
    DGw X (.Tuple es k pos) vs (gTupD n (gNms is)) := by
  refine ⟨⟨fun pins s σ H v u Q I r ⟨κ, d, ρ, S, m, rl, re, rd, h⟩ => (pg_tup hc hp hn hst).run pins s σ H v u Q I r ?_⟩⟩
  unfold gTupD at h
  split at h
  · rename_i ρ' S' e1
    split at e1
    · split at e1
      · rename_i l hl
        obtain ⟨q, ws, rfl, h1, h2⟩ := rd.tup
        refine ⟨q, ws, rfl, h1, by rw [← pairLen h2, List.length_map]; exact hl, canGs_names hv rl re h2 ?_⟩
        rw [e1]
        exact h
      · cases e1
    · cases e1
  · exact h.elim
theorem wipe_wipe (σ : St) {vs : List Nat} : ∀ us : List Nat, (∀ u ∈ us, u ∈ vs) → wipe (wipe σ us) vs = wipe σ vs
  | [], _ => rfl
  | u :: us, h => by
    show wipe ((wipe σ us).set u none) vs = _
    rw [wipe_set (h u List.mem_cons_self), wipe_wipe σ us fun v hv => h v (List.mem_cons_of_mem _ hv)]
def wipeE (ρ : Env) : List Nat → Env
  | [] => ρ
  | v :: vs => (wipeE ρ vs).set v none
theorem RE.wipe {ρ : Env} {σ : St} (re : RE (KX X κ) m S H ρ σ) : ∀ vs : List Nat, RE (KX X κ) m S H (wipeE ρ vs) (L2.wipe σ vs)
  | [] => re
  | v :: vs => pairSet (RE.wipe re vs) fun d e => by cases e
open Classical in
noncomputable def lcL (g : GD) (c : BD) (f : ED) (chk : Sto → Prop) (ρ : Env) : List D → List PyData → Sto → Option (List PyData × Sto)
  | [], acc, S => some (acc, S)
  | d :: ds, acc, S => match g d ρ S with
    | .ok ρ1 S1 => (match c ρ1 S1 with
      | .ok true S2 => (match f ρ1 S2 with
        | .ok y S3 => (match restD y S3 with
          | some (p, S4) => if acc.length < sizeLine ∧ chk S4 then lcL g c f chk ρ ds (acc ++ [p]) S4 else none
          | none => none)
        | _ => none)
      | .ok false S2 => if chk S2 then lcL g c f chk ρ ds acc S2 else none
      | _ => none)
    | _ => none
def okL (r : Option (List PyData × Sto)) : Rs D := match r with
  | some (l, S) => .ok (.lst l) S
  | none => .st
noncomputable def eLc (i : Env → Sto → Rs IDt) (g : GD) (c : BD) (f : ED) (vs : List Nat) : ED := fun ρ S => (i ρ S).bind fun d S1 => okL (lcL g c f d.2 (wipeE ρ vs) d.1 [] S1)
theorem imp_lc {wi : TI} {fi : Env → Sto → Rs IDt} {g : GD} {c : BD} {f : ED} {vs : List Nat} (ii : Imp X W (fun K m S H (d : IDt) (J : It) => ItOk K m S H J d.1 d.2) wi fi) :
    Imp X W RD (tLc wi (canG X vs g) (can X (fun _ _ _ _ => False) RB c) (can X (fun _ _ _ _ => False) RD f) vs) (eLc fi g c f vs) := by
  intro κ ρ S σ H m Q rl re h
  refine ii.seq rl re h fun d S1 J H1 m1 x1 rl1 re1 iok h1 => ?_
  obtain ⟨ds, chk⟩ := d
  have iok : ItOk (KX X κ) m1 S1 H1 J ds chk := iok
  intro L hL
  have hnk : ¬ κ L := fun z => by
    obtain ⟨u, e, _⟩ := (rl1.hid L z).2
    rw [hL] at e; cases e
  let κ' : Addr → Prop := fun a => κ a ∨ a = L
  have hsub : ∀ a, κ' a → κ a ∨ H1 a = none := fun a z => z.elim .inl fun z => .inr (by rw [z]; exact hL)
  have hL' : κ' L := .inr rfl
  -- the state between two turns
  let St' : Nat → Hp → Prop := fun i H2 => ∃ S2 m2 acc ws, Nx (KX X κ) m1 S1 H1 m2 S2 H2 ∧ Rl (KX X κ') m2 S2 H2 ∧ chk S2 ∧ H2 L = some (.lst ws) ∧ RPs (KX X κ') H2 (lv (KX X κ') m2 S2) acc ws ∧
    Post X κ W m1 S1 H1 σ (RD (KX X κ)) (okL (lcL g c f chk (wipeE ρ vs) (ds.drop i) acc S2)) Q
  refine ⟨fun i n H2 => n = ds.length - i ∧ i ≤ ds.length ∧ St' i H2, ⟨ds.length, by simp, Nat.zero_le _, S1, m1, [], [], Nx.new rl1 hL, rl1.hide hL trivial, iok.here, upd_same, by rw [RPs], h1⟩, ?_⟩
  rintro i n H2 ⟨rfl, hi, S2, m2, acc, ws, x2, rl2, ck, eL, racc, h2⟩
  by_cases hlt : i < ds.length
  · have ed : ds.drop i = ds[i] :: ds.drop (i + 1) := List.drop_eq_getElem_cons hlt
    rw [ed] at h2
    obtain ⟨hgo, hy⟩ := iok.go κ' m2 S2 H2 i ds[i] hsub x2 rl2 ck (List.getElem?_eq_getElem hlt)
    refine .inr ⟨hgo, fun H' => i + 1 ≤ ds.length ∧ St' (i + 1) H', fun H' z => ⟨ds.length - (i + 1), by omega, rfl, z.1, z.2⟩, fun x H'' y => ?_⟩
    obtain ⟨x3, rl3, r3⟩ := hy x H'' y
    have re3 : RE (KX X κ') m2 S2 H'' (wipeE ρ vs) (L2.wipe σ vs) := (RE.nxh (K := KX X κ) x2 hsub (RE.wipe re1 vs)).nx x3
    unfold lcL at h2
    refine ⟨κ', ds[i], wipeE ρ vs, S2, m2, rl3, re3, r3, ?_⟩
    cases e1 : g ds[i] (wipeE ρ vs) S2 with
    | st => simp only [e1] at h2; exact h2.elim
    | ex _ _ => simp only [e1] at h2; exact h2.elim
    | ok ρ4 S4 =>
      simp only [e1] at h2
      intro σ4 H4 m4 x4 rl4 re4 wp
      refine ⟨wp.trans (wipe_wipe σ vs (fun _ z => z)), κ', ρ4, S4, m4, rl4, re4, ?_⟩
      cases e2 : c ρ4 S4 with
      | st => simp only [e2] at h2; exact h2.elim
      | ex _ _ => simp only [e2] at h2; exact h2.elim
      | ok b S5 =>
        intro b' H5 m5 x5 rl5 eb
        have eb : b = b' := eb
        subst eb
        have x25 := x3.trans (x4.trans x5)
        cases b with
        | true =>
          simp only [e2] at h2
          rw [if_pos rfl]
          refine ⟨κ', ρ4, S5, m5, rl5, re4.nx x5, ?_⟩
          cases e3 : f ρ4 S5 with
          | st => simp only [e3] at h2; exact h2.elim
          | ex _ _ => simp only [e3] at h2; exact h2.elim
          | ok y5 S6 =>
            simp only [e3] at h2
            intro v6 H6 m6 x6 rl6 r6
            cases e4 : restD y5 S6 with
            | none => simp only [e4] at h2; exact h2.elim
            | some pr =>
              obtain ⟨p, S7⟩ := pr
              simp only [e4] at h2
              by_cases hk : acc.length < sizeLine ∧ chk S7
              · rw [if_pos hk] at h2
                obtain ⟨rl7, x7, r7⟩ := r6.restD rl6 e4
                have x27 := x25.trans (x6.trans x7)
                have eL6 : H6 L = some (.lst ws) := (x27.hid L hL').trans eL
                have ra6 := racc.nx x27
                refine ⟨ws, eL6, by rw [← RPs_len ra6]; exact hk.1, hlt, S7, m6, acc ++ [p], ws ++ [v6], ?_, rl7.hidw hL' trivial, hk.2, upd_same, ?_, h2⟩
                · exact Nx.hidw (x2.hidden (h' := κ') x27 (fun a z => .inl z) hsub) hL ⟨_, eL6, trivial⟩ hnk
                · have hm := hid_upd_lst (o := .lst (ws ++ [v6])) rl7 hL'
                  have ht : ∀ a us, H6 a = some (.tup us) → (upd H6 L (.lst (ws ++ [v6]))) a = some (.tup us) := fun a us h => sqT_upd h (.inr ⟨_, eL6, trivial⟩)
                  exact RPs.mono (K := KX X κ') ht hm _ _ (RPs_app ra6 (RPs_iff.mpr (.cons r7 .nil)))
              · rw [if_neg hk] at h2; exact h2.elim
        | false =>
          simp only [e2] at h2
          rw [if_neg Bool.false_ne_true]
          by_cases hk : chk S5
          · rw [if_pos hk] at h2
            refine ⟨hlt, S5, m5, acc, ws, x2.hidden (h' := κ') x25 (fun a z => .inl z) hsub, rl5, hk, (x25.hid L hL').trans eL, racc.nx x25, h2⟩
          · rw [if_neg hk] at h2; exact h2.elim
  · have e0 : ds.drop i = [] := List.drop_eq_nil_of_le (Nat.le_of_not_lt hlt)
    rw [e0] at h2
    refine .inl ⟨iok.stop κ' m2 S2 H2 i hsub x2 rl2 ck (Nat.le_of_not_lt hlt), ?_⟩
    refine h2 (.ref L) H2 m2 x2 (Rl.unh (K := KX X κ') (h' := κ) (fun a z => .inl z) rl2) ?_
    show RP _ _ _ _ _
    rw [RP]
    refine ⟨L, ws, rfl, eL, ?_, ?_⟩
    · rintro (z | ⟨k, o, z1, z2, z3⟩)
      · exact hnk z
      · exact (rl2.hid L hL').1 (List.mem_of_getElem? z1)
    · have := RDs_p.mpr racc
      exact RDs_p.mp (pairMono (fun _ _ => RD.unh (K := KX X κ') (h' := κ) (fun a z => .inl z)) this)
section
variable {elt tg iter : Expr} {ifs : List Expr} {scope : Scope} {own : List (Str × Nat)} {fi : Env → Sto → Rs IDt} {g : GD} {c : BD} {f : ED}
theorem de_lc (hc : X.calm = true) (hN : X.N.Nodup) (hi : DI X W tg iter fi) (ok : BlkOk X.N X.env.scope scope own)
    (hg : ∀ (s : Shared) (H : Hp) (C : Addr) (cl : List (Str × Addr)) (fp : List Addr), DGw (X.blk s H scope (compEnvC scope cl C X.env) fp) tg (own.map fun x => x.2) g)
    (ht : ∀ (s : Shared) (H : Hp) (C : Addr) (cl : List (Str × Addr)) (fp : List Addr), DTs (X.blk s H scope (compEnvC scope cl C X.env) fp) (fun _ _ _ _ => False) ifs c)
    (he : ∀ (s : Shared) (H : Hp) (C : Addr) (cl : List (Str × Addr)) (fp : List Addr), DE (X.blk s H scope (compEnvC scope cl C X.env) fp) (fun _ _ _ _ => False) elt f)
    (hs : ∀ x, foldedSetIterable iter X.env x = pure x := by intro _; rfl) : DE X W (.ListComp elt [⟨tg, iter, ifs, 0⟩] scope pos) (eLc fi g c f (own.map fun x => x.2)) := by
  obtain ⟨wi, pi, ii⟩ := hi
  exact ⟨_, @pe_lc X elt tg iter ifs scope own pos wi (canG X (List.map (fun (x : Str × Nat) => x.2) own) g) (can X (fun _ _ _ _ => False) RB c) (can X (fun _ _ _ _ => False) RD f) hc hN pi ok (fun s H C cl fp => (hg s H C cl fp).run) (fun s H C cl fp => (ht s H C cl fp).run) (fun s H C cl fp => (he s H C cl fp).can) hs, imp_lc ii⟩
theorem ds_setLc (i : Nat) {y : Str} {py spos : Pos} (hN : X.N.Nodup) (hi : DI X W tg iter fi) (ok : BlkOk X.N X.env.scope scope own)
    (hg : ∀ (s : Shared) (H : Hp) (C : Addr) (cl : List (Str × Addr)) (fp : List Addr), DGw (X.blk s H scope (compEnvC scope cl C X.env) fp) tg (own.map fun x => x.2) g)
    (ht : ∀ (s : Shared) (H : Hp) (C : Addr) (cl : List (Str × Addr)) (fp : List Addr), DTs (X.blk s H scope (compEnvC scope cl C X.env) fp) (fun _ _ _ _ => False) ifs c)
    (he : ∀ (s : Shared) (H : Hp) (C : Addr) (cl : List (Str × Addr)) (fp : List Addr), DE (X.blk s H scope (compEnvC scope cl C X.env) fp) (fun _ _ _ _ => False) elt f)
    (hc : X.calm = true := by rfl) (hy : X.N[i]? = some y := by rfl) (hyl : X.env.scope.names.lookup y = some .local := by rfl) (hsw : swapsWith (.ListComp elt [⟨tg, iter, ifs, 0⟩] scope pos) (some (.Name y py)) spos.line X.env = pure true := by exact sw_true rfl rfl rfl (by decide +kernel))
    (hs : ∀ x, foldedSetIterable iter X.env x = pure x := by intro _; rfl) : DS X W (.Assign [.Name y py] (.ListComp elt [⟨tg, iter, ifs, 0⟩] scope pos) spos) (sSet i (eLc fi g c f (own.map fun x => x.2))) := by
  obtain ⟨wi, pi, ii⟩ := hi
  refine ⟨_, @ps_setLc X i y py elt tg iter ifs scope own pos spos wi (canG X (List.map (fun (x : Str × Nat) => x.2) own) g) (can X (fun _ _ _ _ => False) RB c) (can X (fun _ _ _ _ => False) RD f) hc hN hy hyl hsw pi ok (fun s H C cl fp => (hg s H C cl fp).run) (fun s H C cl fp => (ht s H C cl fp).run) (fun s H C cl fp => (he s H C cl fp).can) hs, fun κ ρ S σ H m Dn rl re h => ?_⟩
  refine (imp_lc ii).seqS rl re h fun d S1 v H1 m1 x1 rl1 re1 r1 h1 => ?_
  exact h1 _ H1 m1 .refl rl1 (pairSet re1 fun d' e => ⟨v, rfl, by cases e; exact r1⟩)
end
end
end DL

namespace DL
open PySem PySem.Spec PyProof.Rows L2
section
variable {X : Cx} {W : WX} {e : Expr} {pos : Pos} {fe : ED} {es : List Expr} {ga : AD}
/-- slot i -/
theorem dv (i : Nat) {x : Str} {pos : Pos} (hN : X.N[i]? = some x := by rfl) (hv : Vis X.env.scope x := by first | exact Or.inl rfl | exact Or.inr (Or.inl rfl) | exact Or.inr (Or.inr rfl)) (hd : (x == ("__debug__" : Str)) = false := by decide)
    (hcd : (x == ("__classdict__" : Str)) = false := by decide) : DE X W (.Name x pos) (eVar i) := de_var hN hv hd hcd
/-- a number that the module names -/
theorem de_globI {x : Str} {i : Int} (hg : Gl X x) (hm : ∃ t, X.mg x = some (.int i t)) (hd : (x == ("__debug__" : Str)) = false := by decide) : DE X W (.Name x pos) (eC (.int i)) := by
  obtain ⟨t, hm⟩ := hm
  refine ⟨tC (.int i), pe_glob hg hm ⟨t, rfl⟩ hd, fun κ ρ S σ H m Q rl re h => h.ok' .refl rl RD.int_⟩
theorem dset (i : Nat) {x : Str} {pos' : Pos} (hN : X.N.Nodup) (he : DE X W e fe) (hi : X.N[i]? = some x := by rfl) (hx : Loc X.env.scope x := by first | exact Or.inl rfl | exact Or.inr rfl) (hs : swapsWith e (some (.Name x pos')) pos.line X.env = pure false := by rfl)
    (hf : X.fn x = true ∨ X.env.scope.names.lookup x = some .local := by first | exact .inl rfl | exact .inr rfl) : DS X W (.Assign [.Name x pos'] e pos) (sSet i fe) := ds_set hN hi hx he hs hf
theorem daug (i : Nat) {x : Str} {op : Operator} {pos' : Pos} {g : D → D → Sto → Rs D} (hN : X.N.Nodup) (he : DE X W e fe) (ho : OpD X W (inplaceOp op) g) (hi : X.N[i]? = some x := by rfl) (hx : Loc X.env.scope x := by first | exact Or.inl rfl | exact Or.inr rfl)
    (hf : X.fn x = true ∨ X.env.scope.names.lookup x = some .local := by first | exact .inl rfl | exact .inr rfl) : DS X W (.AugAssign (.Name x pos') op e pos) (sAug i fe g) := ds_aug hN hi hx he ho hf
theorem dgn (i : Nat) {x : Str} (hN : X.N.Nodup) (hi : X.N[i]? = some x := by rfl) (hx : Loc X.env.scope x := by first | exact Or.inl rfl | exact Or.inr rfl) (hf : X.fn x = true ∨ X.env.scope.names.lookup x = some .local := by first | exact .inl rfl | exact .inr rfl) : DG X W (.Name x pos) (gNm i) := dg_name hN hi hx hf
theorem dgw (i : Nat) {x : Str} {vs : List Nat} (hN : X.N.Nodup) (hv : i ∈ vs) (hi : X.N[i]? = some x := by rfl) (hx : Loc X.env.scope x := by first | exact Or.inl rfl | exact Or.inr rfl) (hf : X.fn x = true ∨ X.env.scope.names.lookup x = some .local := by first | exact .inl rfl | exact .inr rfl) : DGw X (.Name x pos) vs (gNm i) := dgw_name hN hi hx hv hf
theorem pgn (i : Nat) {x : Str} (hN : X.N.Nodup) (hi : X.N[i]? = some x := by rfl) (hx : Loc X.env.scope x := by first | exact Or.inl rfl | exact Or.inr rfl) (hf : X.fn x = true ∨ X.env.scope.names.lookup x = some .local := by first | exact .inl rfl | exact .inr rfl) : PG X (.Name x pos) (gName i) := pg_name hN hi hx hf
end
end DL

/-! how the words come out, step by step (for simp) -/
namespace DL
open PySem PySem.Spec PyProof.Rows L2
section
variable {ρ : Env} {S : Sto} {f g h : ED} {ga : AD} {x y : D} {i j : Int} {k n : Nat} {b c : BD} {d e : PyData} {l l' : List PyData} {ds : List D} {s t : SD}
def oRs {α : Type} (o : Option α) (S : Sto) : Rs α := match o with
  | some a => .ok a S
  | none => .st
@[simp] theorem oRs_some {α : Type} (a : α) (S : Sto) : oRs (some a) S = .ok a S := rfl
@[simp] theorem oRs_none {α : Type} (S : Sto) : oRs (none : Option α) S = .st := rfl
@[simp] theorem Rs.bind_st {α β : Type} (f : α → Sto → Rs β) : Rs.bind .st f = .st := rfl
@[simp] theorem liftS_st {α : Type} (ρ : Env) (k : α → Sto → Out) : liftS ρ .st k = .st := rfl
@[simp] theorem liftS_ex {α : Type} (ρ : Env) (x : Xc) (S : Sto) (k : α → Sto → Out) : liftS ρ (.ex x S) k = .ex x ρ S := rfl
@[simp] theorem Rs.bind_ex {α β : Type} (x : Xc) (S : Sto) (f : α → Sto → Rs β) : Rs.bind (.ex x S) f = .ex x S := rfl
@[simp] theorem eVar_ap : eVar k ρ S = oRs (ρ[k]?.join) S := by
  unfold eVar
  cases h : ρ[k]? with
  | none => rfl
  | some o => cases o <;> rfl
@[simp] theorem eC_ap : eC d ρ S = .ok (.p d) S := rfl
@[simp] theorem eBin_ap {o : D → D → Sto → Rs D} : eBin o f g ρ S = (f ρ S).bind fun x S1 => (g ρ S1).bind fun y S2 => o x y S2 := rfl
def isB : D → Option Bool
  | .p (.bool b) => some b
  | _ => none
@[simp] theorem isB_bl {b : Bool} : isB (.p (.bool b)) = some b := rfl
@[simp] theorem asB_ap : asB f ρ S = (f ρ S).bind fun x S1 => oRs (isB x) S1 := by
  unfold asB
  congr 1
  funext x S1
  cases x with
  | p d => cases d <;> rfl
  | ob _ => rfl
  | scr _ => rfl
  | xc _ _ _ => rfl
@[simp] theorem eChain_ap {o o' : D → D → Sto → Rs D} : eChain o o' f g h ρ S = (f ρ S).bind fun x S1 => (g ρ S1).bind fun y S2 => (o x y S2).bind fun z S3 => match z with
  | .p (.bool true) => (h ρ S3).bind fun w S4 => o' y w S4
  | .p (.bool false) => .ok (.bl false) S3
  | _ => .st := rfl
@[simp] theorem bAnd_ap : bAnd b c ρ S = (b ρ S).bind fun x S1 => if x = true then c ρ S1 else .ok false S1 := rfl
@[simp] theorem bOr_ap : bOr b c ρ S = (b ρ S).bind fun x S1 => if x = true then .ok true S1 else c ρ S1 := rfl
@[simp] theorem bNot_ap : bNot b ρ S = (b ρ S).bind fun x S1 => .ok (!x) S1 := rfl
@[simp] theorem bTru_ap : bTru f ρ S = (f ρ S).bind fun x S1 => oRs (truD S1 x) S1 := by
  unfold bTru
  congr 1
  funext x S1
  cases truD S1 x <;> rfl
@[simp] theorem eAnd_ap : eAnd f g ρ S = (f ρ S).bind fun x S1 => match x with
  | .p (.bool true) => g ρ S1
  | .p (.bool false) => .ok (.bl false) S1
  | _ => .st := rfl
@[simp] theorem eOr_ap : eOr f g ρ S = (f ρ S).bind fun x S1 => match x with
  | .p (.bool false) => g ρ S1
  | .p (.bool true) => .ok (.bl true) S1
  | _ => .st := rfl
@[simp] theorem eNot_ap : eNot f ρ S = (f ρ S).bind fun x S1 => match x with
  | .p (.bool b) => .ok (.bl (!b)) S1
  | _ => .st := rfl
@[simp] theorem eNeg_ap : eNeg f ρ S = (f ρ S).bind fun x S1 => match x with
  | .p (.int i) => .ok (.int (-i)) S1
  | _ => .st := rfl
@[simp] theorem eIf_ap : eIf b f g ρ S = (b ρ S).bind fun x S1 => if x = true then f ρ S1 else g ρ S1 := rfl
@[simp] theorem aNil_ap : aNil ρ S = .ok [] S := rfl
@[simp] theorem aCons_ap : aCons f ga ρ S = (f ρ S).bind fun x S1 => (ga ρ S1).bind fun xs S2 => .ok (x :: xs) S2 := rfl
@[simp] theorem eTup_ap : eTup ga ρ S = (ga ρ S).bind fun ds S1 => match restAll ds S1 with
  | some (l, S2) => if l.length ≤ sizeLine then .ok (.tup l) S2 else .st
  | none => .st := rfl
@[simp] theorem eLst_ap : eLst ga ρ S = (ga ρ S).bind fun ds S1 => match restAll ds S1 with
  | some (l, S2) => if l.length ≤ sizeLine then .ok (.lst l) S2 else .st
  | none => .st := rfl
@[simp] theorem eLstO_ap : eLstO ga ρ S = (ga ρ S).bind fun ds S1 => if ds.length ≤ sizeLine then .ok (.ob S1.length) (S1 ++ [.lst ds]) else .st := rfl
@[simp] theorem eB_ap {o : FD} : eB o ga ρ S = (ga ρ S).bind fun ds S1 => o ds S1 := rfl
@[simp] theorem eCall_ap {o : FD} : eCall n o ga ρ S = (ga ρ S).bind fun ds S1 => if ds.length = n then noEx (o ds S1) else .st := rfl
@[simp] theorem eMth_ap {o : D → FD} : eMth o f ga ρ S = (f ρ S).bind fun d S1 => if isLst S1 d = true then (ga ρ S1).bind fun ds S2 => o d ds S2 else .st := rfl
@[simp] theorem eIsi_ap {T : String} : eIsi T f ρ S = (f ρ S).bind fun d S1 => match tyD S1 d with
  | some t => (match kitB t T with | some b => .ok (.bl b) S1 | none => .st)
  | none => .st := rfl
@[simp] theorem eSl_ap {lo hi : Env → Sto → Rs (Option Int)} : eSl f lo hi ρ S = (f ρ S).bind fun x S1 => (lo ρ S1).bind fun lo S2 => (hi ρ S2).bind fun hi S3 => gSl x lo hi S3 := rfl
@[simp] theorem oNone_ap : oNone ρ S = .ok none S := rfl
@[simp] theorem oSome_ap : oSome f ρ S = (f ρ S).bind fun x S1 => match x with
  | .p (.int i) => .ok (some i) S1
  | _ => .st := rfl
@[simp] theorem eLc_ap {fi : Env → Sto → Rs IDt} {gt : GD} {vs : List Nat} : eLc fi gt b f vs ρ S = (fi ρ S).bind fun d S1 => okL (lcL gt b f d.2 (wipeE ρ vs) d.1 [] S1) := rfl
@[simp] theorem okL_some : okL (some (l, S)) = .ok (.lst l) S := rfl
def seqO (o : Out) (t : SD) : Out := match o with
  | .nx ρ1 S1 => t ρ1 S1
  | o => o
@[simp] theorem seqO_nx : seqO (.nx ρ S) t = t ρ S := rfl
@[simp] theorem seqO_rt : seqO (.rt x S) t = .rt x S := rfl
@[simp] theorem seqO_bk : seqO (.bk ρ S) t = .bk ρ S := rfl
@[simp] theorem seqO_ct : seqO (.ct ρ S) t = .ct ρ S := rfl
@[simp] theorem seqO_ex {x : Xc} : seqO (.ex x ρ S) t = .ex x ρ S := rfl
@[simp] theorem sSeq_ap : sSeq s t ρ S = seqO (s ρ S) t := rfl
@[simp] theorem sNil_ap : sNil ρ S = .nx ρ S := rfl
@[simp] theorem sBrk_ap : sBrk ρ S = .bk ρ S := rfl
@[simp] theorem sCnt_ap : sCnt ρ S = .ct ρ S := rfl
@[simp] theorem sExpr_ap : sExpr f ρ S = liftS ρ (f ρ S) fun _ S1 => .nx ρ S1 := rfl
def rtO (o : Option (PyData × Sto)) : Out := match o with
  | some (p, S2) => .rt (.p p) S2
  | none => .st
@[simp] theorem rtO_some : rtO (some (d, S)) = .rt (.p d) S := rfl
@[simp] theorem sRetR_ap : sRetR f ρ S = liftS ρ (f ρ S) fun d S1 => rtO (restD d S1) := rfl
@[simp] theorem sRetN_ap : sRetN ρ S = .rt .non S := rfl
@[simp] theorem sIf_ap : sIf b s t ρ S = liftS ρ (b ρ S) fun b S1 => if b = true then s ρ S1 else t ρ S1 := rfl
@[simp] theorem sSet_ap : sSet k f ρ S = liftS ρ (f ρ S) fun d S1 => .nx (ρ.set k (some d)) S1 := rfl
def nxG (r : Rs Env) : Out := match r with
  | .ok ρ1 S2 => .nx ρ1 S2
  | _ => .st
@[simp] theorem nxG_ok : nxG (.ok ρ S) = .nx ρ S := rfl
@[simp] theorem sAsg_ap {gt : GD} : sAsg f gt ρ S = liftS ρ (f ρ S) fun d S1 => nxG (gt d ρ S1) := by
  unfold sAsg
  congr 1
@[simp] theorem sAug_ap {o : D → D → Sto → Rs D} : sAug k f o ρ S = liftS ρ (oRs (ρ[k]?.join) S) fun x _ => liftS ρ (f ρ S) fun y S1 => liftS ρ (o x y S1) fun z S2 => .nx (ρ.set k (some z)) S2 := by
  unfold sAug
  cases h : ρ[k]? with
  | none => rfl
  | some o => cases o <;> rfl
@[simp] theorem gNm_ap : gNm k x ρ S = .ok (ρ.set k (some x)) S := rfl
@[simp] theorem sFor_ap {fi : Env → Sto → Rs IDt} {gt : GD} : sFor fi gt s ρ S = liftS ρ (fi ρ S) fun d S1 => forL gt s d.2 d.1 ρ S1 := rfl
@[simp] theorem iRgA_ap : iRgA ga ρ S = (ga ρ S).bind fun ds S1 => match ds with
  | [.p (.int j)] => if big62 j = true then .ok (rngL 0 j.toNat, (fun _ => True : Sto → Prop)) S1 else .st
  | _ => .st := rfl
@[simp] theorem iRgB_ap : iRgB ga ρ S = (ga ρ S).bind fun ds S1 => match ds with
  | [.p (.int i), .p (.int j)] => if big62 i = true ∧ big62 j = true then .ok (rngL i (j - i).toNat, (fun _ => True : Sto → Prop)) S1 else .st
  | _ => .st := rfl
@[simp] theorem iTpl_ap : iTpl f ρ S = (f ρ S).bind fun d S1 => match d with
  | .p (.tuple l) => .ok (l.map .p, (fun _ => True : Sto → Prop)) S1
  | _ => .st := rfl
@[simp] theorem iLst_ap : iLst f ρ S = (f ρ S).bind fun d S1 => match lItems S1 d with
  | some l => .ok (l, chkOf d l) S1
  | none => .st := rfl
@[simp] theorem restD_p' : restD (.p d) S = some (d, S) := rfl
@[simp] theorem restAll_nil : restAll [] S = some ([], S) := rfl
@[simp] theorem restAll_cons : restAll (x :: ds) S = (restD x S).bind fun r => (restAll ds r.2).map fun q => (r.1 :: q.1, q.2) := by
  rw [restAll]
  cases h : restD x S <;> rfl
/-! values -/
@[simp] theorem gAdd_int : gAdd (.p (.int i)) (.p (.int j)) S = .ok (.int (i + j)) S := rfl
@[simp] theorem gAdd_str {a b : Str} : gAdd (.p (.str a)) (.p (.str b)) S = if a.length + b.length ≤ sizeLine then .ok (.str (a ++ b)) S else .st := rfl
@[simp] theorem gAdd_tup : gAdd (.p (.tuple l)) (.p (.tuple l')) S = if l.length + l'.length ≤ sizeLine then .ok (.tup (l ++ l')) S else .st := rfl
@[simp] theorem gAdd_lst : gAdd (.p (.list l)) (.p (.list l')) S = if l.length + l'.length ≤ sizeLine then .ok (.lst (l ++ l')) S else .st := rfl
@[simp] theorem gAddI_int : gAddI (.p (.int i)) (.p (.int j)) S = .ok (.int (i + j)) S := rfl
@[simp] theorem gSub_int : gSub (.p (.int i)) (.p (.int j)) S = .ok (.int (i - j)) S := rfl
@[simp] theorem gMul_int : gMul (.p (.int i)) (.p (.int j)) S = if i.natAbs < 2 ^ 64 ∨ j.natAbs < 2 ^ 64 then .ok (.int (i * j)) S else .st := by
  simp [gMul, gInt]
@[simp] theorem gMod_int : gMod (.p (.int i)) (.p (.int j)) S = if 0 < j then .ok (.int (i % j)) S else .st := by simp [gMod, gInt]
@[simp] theorem gFdv_int : gFdv (.p (.int i)) (.p (.int j)) S = if 0 < j ∧ j < 1073741824 then .ok (.int (i / j)) S else .st := by simp [gFdv, gInt]
@[simp] theorem gPow_int : gPow (.p (.int i)) (.p (.int j)) S = if 0 ≤ j ∧ j ≤ 1000000 ∧ i.natAbs < 2 ^ 64 then .ok (.int (i ^ j.toNat)) S else .st := by simp [gPow, gInt]
@[simp] theorem gLt_int : gLt (.p (.int i)) (.p (.int j)) S = .ok (.bl (decide (i < j))) S := rfl
@[simp] theorem gLe_int : gLe (.p (.int i)) (.p (.int j)) S = .ok (.bl (decide (i ≤ j))) S := rfl
@[simp] theorem gGt_int : gGt (.p (.int i)) (.p (.int j)) S = .ok (.bl (decide (j < i))) S := rfl
@[simp] theorem gGe_int : gGe (.p (.int i)) (.p (.int j)) S = .ok (.bl (decide (j ≤ i))) S := rfl
theorem gEq_pp {neg : Bool} : gEq neg (.p d) (.p e) S = if scalD d e = true then .ok (.bl (neg ^^ PyData.eqv d e)) S else if SeqAt.shaped d = true ∧ SeqAt.shaped e = true then .ok (.bl (neg ^^ PyData.eqv d e)) S else .st := rfl
@[simp] theorem gEq_int {neg : Bool} : gEq neg (.p (.int i)) (.p (.int j)) S = .ok (.bl (neg ^^ (i == j))) S := by rw [gEq_pp]; rfl
@[simp] theorem gEq_str {neg : Bool} {a b : Str} : gEq neg (.p (.str a)) (.p (.str b)) S = .ok (.bl (neg ^^ (a == b))) S := by rw [gEq_pp]; rfl
@[simp] theorem gEq_bl {neg a b : Bool} : gEq neg (.p (.bool a)) (.p (.bool b)) S = .ok (.bl (neg ^^ (a == b))) S := by rw [gEq_pp]; rfl
/-- an item at a place -/
@[simp] theorem atI_nat' {α : Type} (l : List α) (k : Nat) : atI l (k : Int) = l[k]? := by
  unfold atI ixN
  rw [if_pos (by omega)]
  by_cases h : (k : Int) < (l.length : Int)
  · rw [if_pos h]; simp
  · rw [if_neg h, List.getElem?_eq_none (by omega)]; rfl
@[simp] theorem atI_0 {α : Type} (l : List α) : atI l 0 = l[0]? := atI_nat' l 0
@[simp] theorem atI_1 {α : Type} (l : List α) : atI l 1 = l[1]? := atI_nat' l 1
@[simp] theorem atI_2 {α : Type} (l : List α) : atI l 2 = l[2]? := atI_nat' l 2
@[simp] theorem atI_3 {α : Type} (l : List α) : atI l 3 = l[3]? := atI_nat' l 3
@[simp] theorem atI_4 {α : Type} (l : List α) : atI l 4 = l[4]? := atI_nat' l 4
@[simp] theorem atI_5 {α : Type} (l : List α) : atI l 5 = l[5]? := atI_nat' l 5
@[simp] theorem gIx_tup : gIx (.p (.tuple l)) (.p (.int i)) S = oRs ((atI l i).map .p) S := by
  unfold gIx
  dsimp only
  cases atI l i <;> rfl
@[simp] theorem gIx_lst : gIx (.p (.list l)) (.p (.int i)) S = oRs ((atI l i).map .p) S := by
  unfold gIx
  simp only [lItems, atI_map]
  cases atI l i <;> rfl
@[simp] theorem gIx_scr {ns : List Int} : gIx (.scr ns) (.p (.int i)) S = oRs ((atI ns i).map .int) S := by
  unfold gIx
  simp only [lItems, atI_map]
  cases atI ns i <;> rfl
@[simp] theorem gIx_str {z : Str} : gIx (.p (.str z)) (.p (.int i)) S = if z.length ≤ sizeLine then oRs ((atI z.cps.toList i).map fun c => .str ⟨#[c]⟩) S else .st := by
  unfold gIx
  dsimp only
  split
  · cases atI z.cps.toList i <;> rfl
  · rfl
/-- what stands at n -/
def obL (o : Option O) : Option (List D) := match o with
  | some (.lst l) => some l
  | some (.fz l) => some (l.map .p)
  | _ => none
@[simp] theorem obL_lst : obL (some (.lst ds)) = some ds := rfl
@[simp] theorem obL_fz : obL (some (.fz l)) = some (l.map .p) := rfl
theorem lItems_ob : lItems S (.ob n) = obL S[n]? := by
  unfold lItems obL
  rfl
@[simp] theorem gIx_ob : gIx (.ob n) (.p (.int i)) S = oRs ((obL S[n]?).bind fun l => atI l i) S := by
  unfold gIx
  dsimp only
  rw [lItems_ob]
  cases obL S[n]? with
  | none => rfl
  | some l => simp only [Option.bind_some]; cases atI l i <;> rfl
@[simp] theorem gLen_tup : gLen [.p (.tuple l)] S = .ok (.int l.length) S := rfl
@[simp] theorem gLen_lst : gLen [.p (.list l)] S = .ok (.int l.length) S := by
  unfold gLen
  simp [lItems]
@[simp] theorem gLen_scr {ns : List Int} : gLen [.scr ns] S = .ok (.int ns.length) S := by
  unfold gLen
  simp [lItems]
@[simp] theorem gLen_ob : gLen [.ob n] S = oRs ((obL S[n]?).map fun l => .int (l.length : Nat)) S := by
  unfold gLen
  simp only [lItems_ob]
  cases obL S[n]? <;> rfl
@[simp] theorem gLen_str {z : Str} : gLen [.p (.str z)] S = if z.length ≤ sizeLine then .ok (.int z.length) S else .st := rfl
@[simp] theorem gToInt_int : gToInt [.p (.int i)] S = .ok (.int i) S := rfl
@[simp] theorem gToInt_bl {b : Bool} : gToInt [.p (.bool b)] S = .ok (.int (if b then 1 else 0)) S := rfl
@[simp] theorem gToStr_int : gToStr [.p (.int i)] S = if i.natAbs.log2 < 1920 then .ok (.str (toString i)) S else .st := rfl
@[simp] theorem truD_bl {b : Bool} : truD S (.p (.bool b)) = some b := rfl
@[simp] theorem gMin2_int : gMin2 [.p (.int i), .p (.int j)] S = .ok (.int (if j < i then j else i)) S := rfl
@[simp] theorem gMax2_int : gMax2 [.p (.int i), .p (.int j)] S = .ok (.int (if j > i then j else i)) S := rfl
@[simp] theorem isLst_ob : isLst S (.ob n) = (obL S[n]?).isSome := by
  show (match S[n]? with | some (.lst _) => true | some (.fz _) => true | _ => false) = _
  cases S[n]? with
  | none => rfl
  | some o => cases o <;> rfl
@[simp] theorem isLst_lst : isLst S (.p (.list l)) = true := rfl
def obO (o : Option O) : Option (List D) := match o with
  | some (.lst l) => some l
  | _ => none
@[simp] theorem obO_lst : obO (some (.lst ds)) = some ds := rfl
@[simp] theorem oLst_ob : oLst S (.ob n) = (obO S[n]?).map fun l => (n, l) := by
  unfold obO
  show (match S[n]? with | some (.lst l) => some (n, l) | _ => none) = _
  cases S[n]? with
  | none => rfl
  | some o => cases o <;> rfl
def appO (d : PyData) (S : Sto) (o : Option (Nat × List D)) : Rs D := match o with
  | some (n, l) => if l.length < sizeLine then .ok .non (S.set n (.lst (l ++ [.p d]))) else .st
  | none => .st
@[simp] theorem appO_some : appO d S (some (n, ds)) = if ds.length < sizeLine then .ok .non (S.set n (.lst (ds ++ [.p d]))) else .st := rfl
@[simp] theorem gApp_ap : gApp x [D.p d] S = appO d S (oLst S x) := by
  show (match oLst S x with | some (n, l) => if l.length < sizeLine then Rs.ok D.non (S.set n (.lst (l ++ [D.p d]))) else Rs.st | none => Rs.st) = _
  unfold appO
  cases oLst S x <;> rfl
@[simp] theorem gSetL_ap {fo fi : ED} : gSetL fo fi x ρ S = (fo ρ S).bind fun o S1 => (fi ρ S1).bind fun i S2 => okE ρ (setL x o i S2) := rfl
@[simp] theorem okE_some : okE ρ (some S) = .ok ρ S := rfl
@[simp] theorem setL_ob {n : Nat} {i : Int} : setL x (D.ob n) (D.p (PyData.int i)) S = (obO S[n]?).bind fun l => (ixN l.length i).map fun j => S.set n (.lst (l.set j x)) := by
  show (match S[n]? with | some (.lst l) => (match ixN l.length i with | some j => some (S.set n (.lst (l.set j x))) | none => none) | _ => none) = _
  cases S[n]? with
  | none => rfl
  | some o =>
    cases o with
    | lst l =>
      show (match ixN l.length i with | some j => some (S.set n (.lst (l.set j x))) | none => none) = (ixN l.length i).map _
      cases ixN l.length i <;> rfl
    | fz _ => rfl
    | dic _ => rfl
    | dik _ => rfl
    | ins _ _ => rfl
theorem ixN_nat (n k : Nat) : ixN n (k : Int) = if k < n then some k else none := by
  unfold ixN
  rw [if_pos (by omega)]
  by_cases h : (k : Int) < (n : Int)
  · rw [if_pos h, if_pos (by omega)]; rfl
  · rw [if_neg h, if_neg (by omega)]
@[simp] theorem ixN_0 (n : Nat) : ixN n 0 = if 0 < n then some 0 else none := ixN_nat n 0
@[simp] theorem ixN_1 (n : Nat) : ixN n 1 = if 1 < n then some 1 else none := ixN_nat n 1
@[simp] theorem sizeLine_val : sizeLine = 16777216 := sizeLine_eq
end
end DL
namespace DL
open PySem PySem.Spec PyProof.Rows L2
/-! ### loops, by an invariant -/
section
variable {g : GD} {body : SD} {chk : Sto → Prop}
theorem forL_inv (I : Nat → Env → Sto → Prop) : ∀ (ds : List D) (k : Nat) (ρ : Env) (S : Sto), (∀ i d ρ S, ds[i]? = some d → I (k + i) ρ S → ∃ ρ1 S1, g d ρ S = .ok ρ1 S1 ∧ ∃ ρ2 S2, (body ρ1 S1 = .nx ρ2 S2 ∨ body ρ1 S1 = .ct ρ2 S2) ∧ chk S2 ∧ I (k + i + 1) ρ2 S2) → I k ρ S →
    ∃ ρ' S', forL g body chk ds ρ S = .nx ρ' S' ∧ I (k + ds.length) ρ' S'
  | [], k, ρ, S, _, h => ⟨ρ, S, rfl, h⟩
  | d :: ds, k, ρ, S, st, h => by
    obtain ⟨ρ1, S1, e1, ρ2, S2, e2, c, h2⟩ := st 0 d ρ S rfl h
    obtain ⟨ρ', S', e3, h3⟩ := forL_inv I ds (k + 1) ρ2 S2 (fun i d ρ S e hh => by
      have := st (i + 1) d ρ S (by simpa using e) (by rw [show k + (i + 1) = k + 1 + i by omega]; exact hh)
      rw [show k + (i + 1) + 1 = k + 1 + i + 1 by omega] at this
      exact this) h2
    refine ⟨ρ', S', ?_, by rw [List.length_cons, show k + (ds.length + 1) = k + 1 + ds.length by omega]; exact h3⟩
    unfold forL
    rw [e1]
    rcases e2 with e2 | e2
    · simp only [e2, if_pos c]; exact e3
    · simp only [e2, if_pos c]; exact e3
/-- .. that may hand something back -/
theorem forL_ret (I : Nat → Env → Sto → Prop) (R : D → Sto → Prop) : ∀ (ds : List D) (k : Nat) (ρ : Env) (S : Sto), (∀ i d ρ S, ds[i]? = some d → I (k + i) ρ S → ∃ ρ1 S1, g d ρ S = .ok ρ1 S1 ∧ ((∃ ρ2 S2, (body ρ1 S1 = .nx ρ2 S2 ∨ body ρ1 S1 = .ct ρ2 S2) ∧ chk S2 ∧ I (k + i + 1) ρ2 S2) ∨ ∃ d' S', body ρ1 S1 = .rt d' S' ∧ R d' S')) → I k ρ S →
    (∃ ρ' S', forL g body chk ds ρ S = .nx ρ' S' ∧ I (k + ds.length) ρ' S') ∨ ∃ d' S', forL g body chk ds ρ S = .rt d' S' ∧ R d' S'
  | [], k, ρ, S, _, h => .inl ⟨ρ, S, rfl, h⟩
  | d :: ds, k, ρ, S, st, h => by
    obtain ⟨ρ1, S1, e1, hh⟩ := st 0 d ρ S rfl h
    rcases hh with ⟨ρ2, S2, e2, c, h2⟩ | ⟨d', S', e2, r⟩
    · have key := forL_ret I R ds (k + 1) ρ2 S2 (fun i d ρ S e hh => by
        have := st (i + 1) d ρ S (by simpa using e) (by rw [show k + (i + 1) = k + 1 + i by omega]; exact hh)
        rw [show k + (i + 1) + 1 = k + 1 + i + 1 by omega] at this
        exact this) h2
      have eq : forL g body chk (d :: ds) ρ S = forL g body chk ds ρ2 S2 := by
        rw [forL, e1]
        rcases e2 with e2 | e2
        · simp only [e2, if_pos c]
        · simp only [e2, if_pos c]
      rw [eq, List.length_cons, show k + (ds.length + 1) = k + 1 + ds.length by omega]
      exact key
    · refine .inr ⟨d', S', ?_, r⟩
      rw [forL, e1]
      simp only [e2]
theorem lcL_inv {c : BD} {f : ED} {ρ0 : Env} (I : Nat → List PyData → Sto → Prop) : ∀ (ds : List D) (k : Nat) (acc : List PyData) (S : Sto),
    (∀ i d acc S, ds[i]? = some d → I (k + i) acc S → ∃ ρ1 S1, g d ρ0 S = .ok ρ1 S1 ∧ ∃ b S2, c ρ1 S1 = .ok b S2 ∧ ((b = false ∧ chk S2 ∧ I (k + i + 1) acc S2) ∨ (b = true ∧ ∃ p S3, f ρ1 S2 = .ok (.p p) S3 ∧ acc.length < sizeLine ∧ chk S3 ∧ I (k + i + 1) (acc ++ [p]) S3))) → I k acc S →
    ∃ acc' S', lcL g c f chk ρ0 ds acc S = some (acc', S') ∧ I (k + ds.length) acc' S'
  | [], k, acc, S, _, h => ⟨acc, S, rfl, h⟩
  | d :: ds, k, acc, S, st, h => by
    obtain ⟨ρ1, S1, e1, b, S2, e2, hh⟩ := st 0 d acc S rfl h
    have go : ∀ acc2 S3, I (k + 1) acc2 S3 → ∃ acc' S', lcL g c f chk ρ0 ds acc2 S3 = some (acc', S') ∧ I (k + (ds.length + 1)) acc' S' := fun acc2 S3 h3 => by
      have key := lcL_inv I ds (k + 1) acc2 S3 (fun i d acc S e hh => by
        have := st (i + 1) d acc S (by simpa using e) (by rw [show k + (i + 1) = k + 1 + i by omega]; exact hh)
        rw [show k + (i + 1) + 1 = k + 1 + i + 1 by omega] at this
        exact this) h3
      rw [show k + (ds.length + 1) = k + 1 + ds.length by omega]
      exact key
    rcases hh with ⟨rfl, ck, h2⟩ | ⟨rfl, p, S3, e3, hl, ck, h2⟩
    · obtain ⟨acc', S', e4, h4⟩ := go _ _ h2
      refine ⟨acc', S', ?_, h4⟩
      rw [lcL, e1]
      simp only [e2, if_pos ck]
      exact e4
    · obtain ⟨acc', S', e4, h4⟩ := go _ _ h2
      refine ⟨acc', S', ?_, h4⟩
      rw [lcL, e1]
      simp only [e2, e3, restD_p', if_pos (And.intro hl ck)]
      exact e4
theorem rngL_get {lo : Int} {n i : Nat} {d : D} (e : (rngL lo n)[i]? = some d) : i < n ∧ d = .int (lo + i) := by
  unfold rngL at e
  rw [List.getElem?_map] at e
  by_cases h : i < n
  · rw [List.getElem?_range h] at e
    cases e
    exact ⟨h, rfl⟩
  · rw [List.getElem?_eq_none (by simpa using h)] at e
    cases e
@[simp] theorem rngL_length {lo : Int} {n : Nat} : (rngL lo n).length = n := by simp [rngL]
theorem big62_of {i : Int} (h1 : -4611686018427387904 ≤ i) (h2 : i < 4611686018427387904) : big62 i = true := by
  unfold big62
  exact @decide_eq_true _ (Classical.propDecidable _) ⟨h1, h2⟩
theorem big62_nat {n : Nat} (h : n < 4611686018427387904) : big62 (n : Int) = true := big62_of (by omega) (by omega)
end
end DL

namespace DL
open PySem PySem.Spec PyProof.Rows L2
/-! ### raising, trying -/
section
variable {P : Program} {w : World} {K : PySem.W.Frag} {mg : Str → Option Value} {base : Heap}
/-- a def that may raise; what it raises has no context -/
structure FnN (P : Program) (w : World) (K : PySem.W.Frag) (mg : Str → Option Value) (base : Heap) (k : Nat) (x : Str) (n : Nat) (g : FD) : Prop where
  ex : ∃ (f : Addr) (fd : FuncData) (ps : List Str), ps.length = n ∧ mg x = some (.ref f) ∧ PySem.W.keepIn K (.ref f) = true ∧ Binds K fd ps [] ∧ FnOk P w K mg base (L2N.CX P w) k f fd ps (spOf K mg n g)
theorem Fun.dlN {x : Str} {st : Stmt} {f : Addr} {fd : FuncData} {N ps : List Str} {k : Nat} {F : SD} {g : FD} (Fu : Fun K x x st f fd) (Sc : FnScope N ps (defScope st)) (gm : mg x = some (.ref f)) (bd : Binds K fd ps [])
    (body : ∀ (cdv : Value) (A : Around) (outer : List PySem.Env) (s : Shared) (H : Hp) (E : XK), Room k (A.deeper (envOfC x (defScope st) s.heap.objs.size f cdv)) →
      DSs (cxOf (L2N.CX P w) P w K mg base N x (defScope st) f cdv A outer s H E) (fun cls d _ H => E cls d H) (defBody st) F)
    (hg : ∀ ds S, ds.length = ps.length → ClS S.length S → (∀ d ∈ ds, ClD S.length d) → Dn S (F (start0 N ds) S) (g ds S)) : FnN P w K mg base (k + 1) x ps.length g := by
  have fok : FnOk P w K mg base (L2N.CX P w) (k + 1) f fd ps (spOf K mg ps.length g) := by
    obtain ⟨oc, od, kV, doc, pm, an, cdv, ct, osl, rfl, lk, hcd⟩ := Fu.ex
    refine fn_of lk hcd Sc (fun vs H Q E h => h.1) fun A outer s H vs Q E hr h => ?_
    obtain ⟨hl, κ, ds, S, m, rl, rd, po⟩ := h
    obtain ⟨t, pt, it⟩ := body cdv A outer s H E hr
    refine ⟨t, pt, it κ (start0 N ds) S (L2.start N vs) H m _ rl (RE_start rd) ?_⟩
    refine post_of (E := E) rl (hg ds S ((pairLen rd).trans hl) rl.cl (fun d hd => ?_)) po (fun _ _ _ _ z => z)
    have := pairAll (F := RD ⟨K, κ, mg⟩ m S H) (P := ClD m.length) (fun _ _ q => q.cl) rd d hd
    rw [rl.len] at this
    exact this
  exact ⟨f, fd, ps, rfl, gm, Fu.kp, bd, fok⟩
end
section
variable {X : Cx} {W : WX} {m m1 : List Addr} {S S1 : Sto} {H H1 : Hp} {σ : St} {ρ : Env} {κ : Addr → Prop}
variable {a b c e o : Expr} {pos : Pos} {fa fb fe fo : ED} {es : List Expr} {ga : AD} {ss : List Stmt}
theorem de_callN {k j n : Nat} {x : Str} {p : Pos} {g : FD} (F : FnN X.prog X.w X.K X.mg X.base k x n g) (tk : L2N.Takes X W) (hr : Room j X.A) (hk : k ≤ j) (hg : Gl X x) (ha : DA X W (e :: es) ga)
    (hd : (x == ("__debug__" : Str)) = false := by decide) (hs : starEach (e :: es) X.env = (false, eval e X.env) :: starEach es X.env := by rfl)
    (hp : (backTo pos (starEach es X.env)).any (·.1) = false := by rfl) : DE X W (.Call (.Name x p) (e :: es) [] pos) (eCallX n g ga) := by
  obtain ⟨f, fd, ps, hl, gm, kp, bd, ok⟩ := F
  obtain ⟨t, q, i⟩ := ha
  refine ⟨_, pe_callS (E := WE W) ok (hr.mono hk) hg gm kp bd (fun σ => L2N.passAt tk σ) q hd hs hp, fun κ ρ S σ H m Q rl re h => ?_⟩
  refine i.seq rl re h fun d S1 v H1 m1 x1 rl1 re1 r1 h1 => ?_
  split at h1
  · rename_i hn
    exact ⟨by rw [← pairLen r1]; exact hn, κ, d, S1, m1, rl1, r1, PostF.of h1⟩
  · exact h1.elim
/-- what an expression makes that is raised -/
structure DM (X : Cx) (e : Expr) (f : Env → Sto → Rs Xc) : Prop where
  ex : ∃ t : St → Hp → XK → Prop, L2N.PMk X e t ∧ ∀ κ ρ S σ H m (Q : XK), Rl (KX X κ) m S H → RE (KX X κ) m S H ρ σ →
    (match f ρ S with | .ok x S' => ∀ H' m' c dd, Nx (KX X κ) m S H m' S' H' → Rl (KX X κ) m' S' H' → RX X.mg (KX X κ) (lv (KX X κ) m' S') H' x c dd → Q c dd H' | _ => False) → t σ H Q
def mOwn (x : Str) : Env → Sto → Rs Xc := fun _ S => .ok ⟨x, []⟩ S
/-- X(), an own class without a making of its own -/
theorem pmk_own_0 {C : Addr} {bmB : List Value} {B newId initId : String} {x : Str} {p : Pos} (F : ExcBaseFacts B newId initId bmB) (q : PySem.W.excIn X.K C bmB newId = true) (gC : X.mg x = some (.ref C))
    (kC : PySem.W.keepIn X.K (.ref C) = true) (r : Raises X (.ref C)) (hg : Gl X x) (hdb : (x == ("__debug__" : Str)) = false := by decide) : L2N.PMk X (.Call (.Name x p) [] [] pos) (fun _ H Q => Q (.ref C) none H) := by
  intro pins s σ H Q I q1
  refine wpAny_Call_Name_kw (ld_glob I hg gC ?_ hdb)
  refine PySem.W.callWith_K0 I.kIn kC ?_
  obtain ⟨bm, N, nm, qn, bs, hdct, sn, sub, ab, col, dd, k0, k1, k2, k3, k5, mN, hC, hN, hni, T⟩ := exc_obj I.kIn q
  exact wpAny_call_exc_subT F T hC hN hni (fun h' e hm => L2N.mk_of I hm r q1 (I.hok.gone hm.new)) (Nat.zero_le _)
theorem dm_own {C : Addr} {bmB : List Value} {B newId initId : String} {x : Str} {p : Pos} (F : ExcBaseFacts B newId initId bmB) (q : PySem.W.excIn X.K C bmB newId = true) (gC : X.mg x = some (.ref C))
    (kC : PySem.W.keepIn X.K (.ref C) = true) (r : Raises X (.ref C)) (hg : Gl X x) (hdb : (x == ("__debug__" : Str)) = false := by decide) : DM X (.Call (.Name x p) [] [] pos) (mOwn x) :=
  ⟨_, pmk_own_0 F q gC kC r hg hdb, fun κ ρ S σ H m Q rl re h => h H m (.ref C) none .refl rl ⟨gC, .inl ⟨rfl, rfl⟩⟩⟩
def sRaise (f : Env → Sto → Rs Xc) : SD := fun ρ S => match f ρ S with
  | .ok x S1 => .ex x ρ S1
  | _ => .st
theorem ds_raise {f : Env → Sto → Rs Xc} (hc : X.calm = true) (tk : L2N.Takes X W) (he : DM X e f) : DS X W (.Raise (some e) none pos) (sRaise f) := by
  obtain ⟨t, p, i⟩ := he
  refine ⟨_, L2N.ps_raise hc tk p, fun κ ρ S σ H m Dn rl re h => ?_⟩
  refine i κ ρ S σ H m _ rl re ?_
  unfold sRaise at h
  cases e1 : f ρ S with
  | st => rw [e1] at h; exact h.elim
  | ex _ _ => rw [e1] at h; exact h.elim
  | ok x S1 =>
    rw [e1] at h
    exact fun H' m' c dd nx rl' rx => h σ H' m' c dd nx rl' (re.nx nx) rx
/-- what raises nothing -/
def noX (f : SD) : SD := fun ρ S => match f ρ S with
  | .ex _ _ _ => .st
  | o => o
theorem dss_nox {f : SD} (h : DSs X.nox (fun _ _ _ _ => False) ss f) : DSs X W ss (noX f) := by
  obtain ⟨t, p, i⟩ := h
  refine ⟨t, p.nox, fun κ ρ S σ H m Dn rl re h => i κ ρ S σ H m Dn rl re ?_⟩
  have h : PostS X κ W m S H (noX f ρ S) Dn := h
  unfold noX at h
  cases e1 : f ρ S with
  | ex _ _ _ => rw [e1] at h; exact h.elim
  | st => rw [e1] at h; exact h.elim
  | nx _ _ => rw [e1] at h; exact h
  | bk _ _ => rw [e1] at h; exact h
  | ct _ _ => rw [e1] at h; exact h
  | rt _ _ => rw [e1] at h; exact h
theorem ds_nox {s1 : Stmt} {f : SD} (h : DS X.nox (fun _ _ _ _ => False) s1 f) : DS X W s1 (noX f) := by
  obtain ⟨t, p, i⟩ := h
  refine ⟨t, ⟨fun pins s σ H D I hw => wpAny_mono (p.run pins s σ H D (I.wish _) hw) (fun _ _ q => q.unwish) fun _ _ z => False.elim z⟩, fun κ ρ S σ H m Dn rl re h => i κ ρ S σ H m Dn rl re ?_⟩
  have h : PostS X κ W m S H (noX f ρ S) Dn := h
  unfold noX at h
  cases e1 : f ρ S with
  | ex _ _ _ => rw [e1] at h; exact h.elim
  | st => rw [e1] at h; exact h.elim
  | nx _ _ => rw [e1] at h; exact h
  | bk _ _ => rw [e1] at h; exact h
  | ct _ _ => rw [e1] at h; exact h
  | rt _ _ => rw [e1] at h; exact h
/-- a suite's end: the name is gone -/
def gone (i : Nat) : Out → Out
  | .nx ρ S => .nx (ρ.set i none) S
  | .bk ρ S => .bk (ρ.set i none) S
  | .ct ρ S => .ct (ρ.set i none) S
  | .rt d S => .rt d S
  | _ => .st
open Classical in
noncomputable def common (q : Option Addr → Prop) (F : Addr → Option Addr → Out) : Out := if h : ∃ o, ∀ a d, q d → F a d = o then h.choose else .st
theorem common_eq {q : Option Addr → Prop} {F : Addr → Option Addr → Out} {o : Out} (h : ∀ a d, q d → F a d = o) (ne : ∃ d, q d) : common q F = o := by
  have e : ∃ o, ∀ a d, q d → F a d = o := ⟨o, h⟩
  unfold common
  rw [dif_pos e]
  obtain ⟨d, hd⟩ := ne
  exact (e.choose_spec 0 d hd).symm.trans (h 0 d hd)
theorem common_at {q : Option Addr → Prop} {F : Addr → Option Addr → Out} {R : Out → Prop} (hst : ¬ R .st) (h : R (common q F)) {a : Addr} {d : Option Addr} (hd : q d) : R (F a d) := by
  unfold common at h
  by_cases e : ∃ o, ∀ a d, q d → F a d = o
  · rw [dif_pos e] at h
    rw [e.choose_spec a d hd]
    exact h
  · rw [dif_neg e] at h
    exact absurd h hst
noncomputable def sTry (sub : Str → Bool → Option Bool) (i : Nat) (fb : SD) (fs : Str → Addr → Option Addr → SD) : SD := fun ρ S => match fb ρ S with
  | .ex x ρ1 S1 => (match sub x.c (!x.fs.isEmpty) with
    | some true => common (fun d => d.isSome = !x.fs.isEmpty) fun a d => gone i (fs x.c a d (ρ1.set i (some (.xc a d x.fs))) S1)
    | some false => .ex x ρ1 S1
    | none => .st)
  | o => o
/-- a suite's term, by what it does for the classes that are known -/
def canT (Y : Cx) (sub : Str → Bool → Option Bool) (hb : Bool) (fs : Str → SD) (cls : Value) : TS := fun D σ H => ∃ (cn : Str) (κ : Addr → Prop) (ρ : Env) (S : Sto) (m : List Addr), sub cn hb = some true ∧ Y.mg cn = some cls ∧ Rl (KX Y κ) m S H ∧ RE (KX Y κ) m S H ρ σ ∧
  PostS Y κ (fun _ _ _ _ => False) m S H (fs cn ρ S) D
theorem ds_try_as {body suite : List Stmt} {b₀ : Stmt} {np pos' : Pos} {i : Nat} {x n : Str} {c : Value} {sub : Str → Bool → Option Bool} {fb : SD} {fs : Str → Addr → Option Addr → SD}
    (hs : X.stack = X.env :: X.outer) (hf : X.env.frame = some X.env.locals) (hN : X.N.Nodup) (hi : X.N[i]? = some n) (hln : X.env.kindOf n = some .local) (hc : Names X x c) (tk : L2N.Takes X W)
    (hsub : ∀ cn hb b cls, sub cn hb = some b → X.mg cn = some cls → PySem.W.exmOne X.K cls c = some b)
    (hb : ∀ (W : WX) (pn : List (Addr × Obj)) (xe : Value → Shared → Prop), L2N.Takes (X.tr pn xe) W → PassesOwn (model X.prog X.w) X.A X.env xe → DSs (X.tr pn xe) W body fb)
    (hsu : ∀ (cn : Str) (cls : Value) (a : Addr) (oe : Obj) (d : Option Addr) (pn : List (Addr × Obj)), sub cn d.isSome = some true → X.mg cn = some cls → L2N.Zn cls d oe → (∃ vs, oe.data = .fields vs) → DSs (X.suite a ((a, oe) :: pn)) (fun _ _ _ _ => False) (b₀ :: suite) (fs cn a d)) :
    DS X W (.Try body [.ExceptHandler (some (.Name x np)) (some n) (b₀ :: suite) pos'] [] [] pos) (sTry sub i fb fs) := by
  have hb' : ∀ (W : WX) (pn : List (Addr × Obj)) (xe : Value → Shared → Prop), L2N.Takes (X.tr pn xe) W → PassesOwn (model X.prog X.w) X.A X.env xe → PSs (X.tr pn xe) body (fun D σ H => ∃ (κ : Addr → Prop) (ρ : Env) (S : Sto) (m : List Addr), Rl (KX X κ) m S H ∧ RE (KX X κ) m S H ρ σ ∧ PostS X κ W m S H (fb ρ S) D) := by
    intro W pn xe t ps
    obtain ⟨t, p, im⟩ := hb W pn xe t ps
    exact ⟨fun pins s σ H D I ⟨κ, ρ, S, m, rl, re, h⟩ => p.run pins s σ H D I (im κ ρ S σ H m D rl re h)⟩
  have hsu' : ∀ (a : Addr) (oe : Obj) (cls : Value) (d : Option Addr) (pn : List (Addr × Obj)), L2N.Zn cls d oe → (∃ vs, oe.data = .fields vs) → PSs (X.suite a ((a, oe) :: pn)) (b₀ :: suite) (canT X sub d.isSome (fun cn => fs cn a d) cls) := by
    intro a oe cls d pn hz hfl
    refine ⟨fun pins s σ H D I hw => ?_⟩
    obtain ⟨cn, κ, ρ, S, m, e1, e2, rl, re, h⟩ := hw
    obtain ⟨t, p, im⟩ := hsu cn cls a oe d pn e1 e2 hz hfl
    exact p.run pins s σ H D I (im κ ρ S σ H m D rl re h)
  refine ⟨_, L2N.ps_try_as hs hf hN hi hln hc tk hb' hsu', fun κ ρ S σ H m Dn rl re h => ⟨κ, ρ, S, m, rl, re, ?_⟩⟩
  have h : PostS X κ W m S H (sTry sub i fb fs ρ S) Dn := h
  unfold sTry at h
  cases e1 : fb ρ S with
  | st => rw [e1] at h; exact h.elim
  | nx _ _ => rw [e1] at h; exact h
  | bk _ _ => rw [e1] at h; exact h
  | ct _ _ => rw [e1] at h; exact h
  | rt _ _ => rw [e1] at h; exact h
  | ex y ρ1 S1 =>
    rw [e1] at h
    simp only at h
    intro σ1 H1 m1 cls dd x1 rl1 re1 rx
    have hd : dd.isSome = !y.fs.isEmpty := by
      rcases rx.2 with ⟨q1, q2⟩ | ⟨d, q1, q2, q3⟩
      · rw [q1, q2]; rfl
      · rw [q1]
        cases e5 : y.fs with
        | nil => exact absurd e5 q2
        | cons _ _ => rfl
    cases e2 : sub y.c (!y.fs.isEmpty) with
    | none => rw [e2] at h; exact h.elim
    | some bb =>
      refine ⟨bb, hsub _ _ _ _ e2 rx.1, fun hbt a ha => ?_, fun hbf => ?_⟩
      · subst hbt
        rw [e2] at h
        have h2 := common_at (R := fun o => PostS X κ W m S H o Dn) (fun z => z) h (a := a) (d := dd) hd
        refine ⟨y.c, κ, ρ1.set i (some (.xc a dd y.fs)), S1, m1, by rw [hd]; exact e2, rx.1, rl1, pairSet re1 (fun d' e => ⟨_, rfl, ?_⟩), ?_⟩
        · cases e
          refine ⟨rfl, fun d e => ?_⟩
          rcases rx.2 with ⟨_, q2⟩ | ⟨d2, q1, _, q3⟩
          · rw [q2] at e; cases e
          · rw [q1] at e; cases e; exact q3
        · have h3 := PostS.nx x1 h2
          show PostS X κ (fun _ _ _ _ => False) m1 S1 H1 (fs y.c a dd (ρ1.set i (some (.xc a dd y.fs))) S1) _
          cases e3 : fs y.c a dd (ρ1.set i (some (.xc a dd y.fs))) S1 with
          | st => rw [e3] at h3; exact h3.elim
          | ex _ _ _ => rw [e3] at h3; exact h3.elim
          | nx ρ2 S2 => rw [e3] at h3; exact fun σ' H' m' x2 rl2 re2 => h3 _ H' m' x2 rl2 (pairSet re2 fun d' e => by cases e)
          | bk ρ2 S2 => rw [e3] at h3; exact fun σ' H' m' x2 rl2 re2 => h3 _ H' m' x2 rl2 (pairSet re2 fun d' e => by cases e)
          | ct ρ2 S2 => rw [e3] at h3; exact fun σ' H' m' x2 rl2 re2 => h3 _ H' m' x2 rl2 (pairSet re2 fun d' e => by cases e)
          | rt d2 S2 => rw [e3] at h3; exact h3
      · subst hbf
        rw [e2] at h
        exact h σ1 H1 m1 cls dd x1 rl1 re1 rx
end
end DL

namespace DL
open PySem PySem.Spec PyProof.Rows L2
/-! ### while an exception is handled -/
/-- the exception in hand stands at a, its class is called cn, its own dict is d -/
structure HX (X : Cx) (a : Addr) (cn : Str) (d : Option Addr) : Prop where
  ex : ∃ (oe : Obj) (cls : Value), (a, oe) ∈ X.pn ∧ L2H.Hot1 X.A (a, oe) ∧ X.mg cn = some cls ∧ L2N.Zn cls d oe
section
variable {X : Cx} {a0 : Addr} {cn : Str} {d0 : Option Addr}
theorem HX.hot (h : HX X a0 cn d0) : L2H.HotC X := by
  obtain ⟨oe, cls, h1, h2, _⟩ := h
  exact ⟨_, h2, h1⟩
theorem HX.of_suite {cls : Value} {oe : Obj} {pn : List (Addr × Obj)} (hm : X.mg cn = some cls) (hz : L2N.Zn cls d0 oe) (hf : ∃ vs, oe.data = .fields vs) : HX (X.suite a0 ((a0, oe) :: pn)) a0 cn d0 := by
  obtain ⟨vs, e⟩ := hf
  exact ⟨oe, cls, List.mem_cons_self, ⟨rfl, vs, e, hz.2.2 vs e⟩, hm, hz⟩
end
section
variable {P : Program} {w : World} {K : PySem.W.Frag} {mg : Str → Option Value} {base : Heap}
/-- the def called x does g where an exception of the class called cn is in hand -/
structure FnK (P : Program) (w : World) (K : PySem.W.Frag) (mg : Str → Option Value) (base : Heap) (k : Nat) (x : Str) (n : Nat) (cn : Str) (dk : Bool) (g : Addr → Option Addr → FD) : Prop where
  ex : ∃ (f : Addr) (fd : FuncData) (ps : List Str), ps.length = n ∧ mg x = some (.ref f) ∧ PySem.W.keepIn K (.ref f) = true ∧ Binds K fd ps [] ∧
    ∀ (A : Around) (outer : List PySem.Env) (s : Shared) (H : Hp) (ar : Args) (us : List Value) (vs : List V) (Q : VK) (E : XK) (a : Addr) (oe : Obj) (cls : Value) (d : Option Addr), d.isSome = dk →
      L2H.RoomH k A → L2H.Hot1 A (a, oe) → L2H.PinOk outer H s (a, oe) → mg cn = some cls → L2N.Zn cls d oe → Env0 P w K mg base A outer s H → BindsTo s fd ar (ps.zip us) → Vals vs us →
      spOf K mg n (fun ds S => noEx (g a d ds S)) vs H Q E → codeAny (model P w) A (.call (.ref f) ar) (CR CX0 outer P w H s Q E) s
abbrev hotX (P : Program) (w : World) (K : PySem.W.Frag) (mg : Str → Option Value) (base : Heap) (N : List Str) (x : Str) (st : Stmt) (f : Addr) (cdv : Value) (A : Around) (outer : List PySem.Env) (s : Shared) (H : Hp) (E : XK) (p : Addr × Obj) : Cx :=
  (L2H.cxH CX0 P w K mg base N x (defScope st) f cdv A outer s H E p).nox
theorem Fun.dlK {x : Str} {st : Stmt} {f : Addr} {fd : FuncData} {N ps : List Str} {k : Nat} {cn : Str} {dk : Bool} {F : Addr → Option Addr → SD} {g : Addr → Option Addr → FD} (Fu : Fun K x x st f fd) (Sc : FnScope N ps (defScope st)) (gm : mg x = some (.ref f)) (bd : Binds K fd ps [])
    (body : ∀ (cdv : Value) (A : Around) (outer : List PySem.Env) (s : Shared) (H : Hp) (E : XK) (p : Addr × Obj) (d : Option Addr), d.isSome = dk → L2H.RoomH k (A.deeper (envOfC x (defScope st) s.heap.objs.size f cdv)) → HX (hotX P w K mg base N x st f cdv A outer s H E p) p.1 cn d →
      DSs (hotX P w K mg base N x st f cdv A outer s H E p) (fun _ _ _ _ => False) (defBody st) (F p.1 d))
    (hg : ∀ a d ds S, ds.length = ps.length → ClS S.length S → (∀ d ∈ ds, ClD S.length d) → Dn S (F a d (start0 N ds) S) (g a d ds S)) : FnK P w K mg base (k + 1) x ps.length cn dk g := by
  refine ⟨f, fd, ps, rfl, gm, Fu.kp, bd, ?_⟩
  intro A outer s H ar us vs Q E a oe cls d hdk rm hot pin hm hz e0 hb r hsp
  obtain ⟨oc, od, kV, doc, pm, an, cdv, ct, osl, rfl, lk, hcd⟩ := Fu.ex
  have kin : K.In s.heap := e0.mod.kin.keeps fun b o e => (e0.bs b o e).1
  have lens : vs.length = ps.length := hsp.1
  have loc : ∀ y ∈ ps.zip us, (defScope st).names.lookup y.1 = some .local ∨ ((defScope st).names.lookup y.1 = some .cell ∧ ((cellsFrom (s.heap.objs.size + 1) (defScope st).names []).lookup y.1).isSome = true) := by
    rintro ⟨y, v⟩ hy
    rcases Sc.par y (List.of_mem_zip hy).1 with q | q
    · exact .inl q
    · exact .inr ⟨q, PySem.W.cellsFrom_some _ _ _ (.inl q)⟩
  refine codeAny_call_function rm.depth (kin _ _ lk) rfl Sc.co Sc.gen rfl (PySem.W.codeRec_of kin hcd) (hb _ _ _ _ ?_)
  refine wpAny_newFunctionEnv_cells Sc.kind loc fun en hen s1 ic => ?_
  subst hen
  refine ⟨(e0.mod.nolimit.keeps fun b o e => (e0.bs b o e).1).keeps ic.toInCall.keep, codeAny_func ?_⟩
  have J := L2H.inv_startH (E := E) (CX := CX0) (cd := cdv) Sc pin e0 lens r ic
  obtain ⟨t, pt, it⟩ := body cdv A outer s H E (a, oe) d hdk (rm.deeper _) ⟨oe, cls, List.mem_singleton.mpr rfl, hot, hm, hz⟩
  obtain ⟨hl, κ, ds, S, m, rl, rd, po⟩ := hsp
  have rdy := it κ (start0 N ds) S (L2.start N vs) H m { nx := fun _ H' => Q .non H', rt := Q } rl (RE_start rd) (by
    refine post_of (E := fun _ _ _ => False) rl (hg a d ds S ((pairLen rd).trans hl) rl.cl (fun d hd => ?_)) ?_ (fun _ _ _ _ z => z)
    · have := pairAll (F := RD ⟨K, κ, mg⟩ m S H) (P := ClD m.length) (fun _ _ q => q.cl) rd d hd
      rw [rl.len] at this
      exact this
    · have po : PostF ⟨K, κ, mg⟩ mg m S H (noEx (g a d ds S)) Q E := po
      cases e : g a d ds S with
      | st => rw [e] at po; exact po.elim
      | ok d S' => rw [e] at po; exact po
      | ex y S' => rw [e] at po; exact po.elim)
  refine wpAny_mono (pt.nox.run [] s1 _ H _ J rdy) (fun fl s' hs => ?_) fun e s' hs => hs
  cases fl with
  | ret u =>
    obtain ⟨v, σ', H', J', rv, q⟩ := hs
    exact ⟨v, H', J'.os, J'.bare, J'.base, J'.hok, rv, q⟩
  | next =>
    obtain ⟨σ', H', J', q⟩ := hs
    exact ⟨.non, H', J'.os, J'.bare, J'.base, J'.hok, rfl, q⟩
  | brk =>
    obtain ⟨_, _, _, q⟩ := hs
    exact q.elim
  | cont =>
    obtain ⟨_, _, _, q⟩ := hs
    exact q.elim
end
section
variable {X : Cx} {W : WX} {m m1 : List Addr} {S S1 : Sto} {H H1 : Hp} {σ : St} {ρ : Env} {κ : Addr → Prop}
variable {a b c e o : Expr} {pos : Pos} {fa fb fe fo : ED} {es : List Expr} {ga : AD} {ss : List Stmt} {a0 : Addr} {cn : Str} {d0 : Option Addr}
theorem de_callK {k j n : Nat} {x : Str} {p : Pos} {g : Addr → Option Addr → FD} (hx : HX X a0 cn d0) (F : FnK X.prog X.w X.K X.mg X.base k x n cn d0.isSome g) (hr : L2H.RoomH j X.A) (hk : k ≤ j) (hg : Gl X x) (ha : DA X W (e :: es) ga)
    (hd : (x == ("__debug__" : Str)) = false := by decide) (hs : starEach (e :: es) X.env = (false, eval e X.env) :: starEach es X.env := by rfl)
    (hp : (backTo pos (starEach es X.env)).any (·.1) = false := by rfl) : DE X W (.Call (.Name x p) (e :: es) [] pos) (eCall n (g a0 d0) ga) := by
  obtain ⟨f, fd, ps, hl, gm, kp, bd, ok⟩ := F
  obtain ⟨t, q, i⟩ := ha
  obtain ⟨oe, cls, hmem, hot, hm, hz⟩ := hx
  have pe : PE X (.Call (.Name x p) (e :: es) [] pos) (fun σ H Q => t σ H fun vs H1 => spOf X.K X.mg n (fun ds S => noEx (g a0 d0 ds S)) vs H1 Q (fun _ _ _ => False)) := by
    refine ⟨fun pins s σ H Q I hw => ?_⟩
    refine wpAny_Call_Name_kw (ld_glob I hg gm ?_ hd)
    refine PySem.W.callWith_K (h₀ := X.base) I.ok.mod.kin kp (thn (q.run pos pins s σ H _ I hw) fun us s1 hv => ?_) hs hp
    obtain ⟨vs, H1, I1, r, sp⟩ := hv
    have hul : us.length = ps.length := by rw [← r.length, hl]; exact sp.1
    have bb := bd s1 us I1.kIn (by rw [List.append_nil]; exact hul)
    rw [List.append_nil] at bb
    have pp := I1.pin (a0, oe) (List.mem_append_left _ hmem)
    have pk : L2H.PinOk X.stack H1 s1 (a0, oe) := by
      refine ⟨pp.1, pp.2.1, fun z => ?_, pp.2.2.2.2⟩
      rcases List.mem_cons.mp (I1.stkSub a0 z) with z | z
      · exact pp.2.2.1 z
      · exact pp.2.2.2.1 z
    refine ⟨I1.kIn, wpAny_call (codeAny_mono (ok X.A X.stack s1 H1 ⟨us, []⟩ us vs Q (fun _ _ _ => False) a0 oe cls d0 rfl (hr.mono hk) hot pk hm hz I1.env0 bb r sp) fun rs s' hq => ?_)⟩
    cases rs with
    | error _ => exact hq.elim
    | ok fl =>
      cases fl with
      | ret u => exact I1.after hq
      | next => exact hq.elim
      | brk => exact hq.elim
      | cont => exact hq.elim
  refine ⟨_, pe, fun κ ρ S σ H m Q rl re h => ?_⟩
  refine i.seq rl re h fun d S1 v H1 m1 x1 rl1 re1 r1 h1 => ?_
  split at h1
  · rename_i hn
    exact ⟨by rw [← pairLen r1]; exact hn, κ, d, S1, m1, rl1, r1, PostF.no h1⟩
  · exact h1.elim
/-- isinstance(e, C) of the exception in hand -/
def rIsH (K : PySem.W.Frag) (D0 a0 : Addr) (d0 : Option Addr) : List V → Hp → VK → Prop := fun xs H Q => ∃ (c : V) (cv : Value) (b : Bool), xs = [.ref a0, c] ∧ (∀ u, RelV c u → u = cv) ∧ PySem.W.kitOne K (.ref D0) cv = some b ∧ (∀ d, d0 = some d → ∃ fs, H d = some (.xd fs)) ∧ Q (.bl b) H
theorem call_isH {D0 : Addr} (C : ExcC X.K D0) (hx : HX X a0 cn d0) (hc : X.mg cn = some (.ref D0)) : CallR X (.builtin "isinstance") (rIsH X.K D0 a0 d0) := by
  obtain ⟨oe, cls, hmem, ⟨_, vs0, hd, _⟩, hm, hz⟩ := hx
  rw [hc] at hm
  cases hm
  intro pins s σ H xs us Q I r h
  obtain ⟨c, cv, b, rfl, hcv, e, hdd, q⟩ := h
  rcases r with _ | ⟨rx, _ | ⟨rt, _ | _⟩⟩
  cases rx
  have ec := hcv _ rt
  subst ec
  have g := (I.pin (a0, oe) (List.mem_append_left _ hmem)).1
  have nc : PySem.W.notCls oe := by unfold PySem.W.notCls; rw [hd] <;> rfl
  have J : ∃ od, PySem.W.InstAt s.heap a0 oe D0 od := by
    cases d0 with
    | none => exact ⟨none, g, hz.1, nc, by rw [hz.2.1]; trivial⟩
    | some d =>
      obtain ⟨fs, hfs⟩ := hdd d rfl
      obtain ⟨mA, hns, _⟩ := (I.hok d _ hfs : ObjOk X.prog X.w H s.heap d (.xd fs))
      obtain ⟨od, ho, _⟩ := lookIn_ns hns
      exact ⟨some od, g, hz.1, nc, by rw [hz.2.1]; exact ho⟩
  obtain ⟨od, J⟩ := J
  obtain ⟨cd, hcl, _⟩ := PySem.W.any_some C.hd
  exact PySem.W.kia_one (PySem.W.kitx_exc (by rw [hcl]; rfl) C.hg C.hk C.hs C.ha C.hn C.ht C.hm) I.kIn J e (fun z => nomatch z) fun tk => ⟨.bl b, H, I.kept (t' := tk) fun _ _ z => z, rfl, q⟩
def eIsE (a0 : Addr) (d0 : Option Addr) (b : Bool) (f : ED) : ED := fun ρ S => (f ρ S).bind fun d S1 => match d with
  | .xc a dd _ => if a = a0 ∧ dd = d0 then .ok (.bl b) S1 else .st
  | _ => .st
theorem de_isE {D0 : Addr} {x : Str} {p p2 : Pos} {v : V} {cv : Value} {r : Bool} (C : ExcC X.K D0) (hx : HX X a0 cn d0) (hc : X.mg cn = some (.ref D0)) (hg : Gl X "isinstance") (hm : X.mg "isinstance" = none)
    (hn : PE X (.Name x p2) (tC v)) (hv : ∀ u, RelV v u → u = cv) (hk : PySem.W.kitOne X.K (.ref D0) cv = some r) (he : DE X W e fe)
    (hb : bootBuiltins "isinstance" = some (.builtin "isinstance") := by decide +kernel)
    (hs1 : starEach [e, .Name x p2] X.env = (false, eval e X.env) :: starEach [.Name x p2] X.env := by rfl) (hs2 : starEach [.Name x p2] X.env = (false, eval (.Name x p2) X.env) :: starEach [] X.env := by rfl)
    (hp : (backTo pos (starEach [.Name x p2] X.env)).any (·.1) = false := by rfl) :
    DE X W (.Call (.Name "isinstance" p) [e, .Name x p2] [] pos) (eIsE a0 d0 r fe) := by
  obtain ⟨t, q, i⟩ := he
  refine ⟨_, pe_callB (call_isH C hx hc) hg hm hb (pa_cons q (pa_cons hn pa_nil hs2) hs1) (by decide) (by decide) hs1 hp, fun κ ρ S σ H m Q rl re h => ?_⟩
  refine i.seq rl re h fun d S1 u H1 m1 x1 rl1 re1 r1 h1 => ?_
  split at h1
  · split at h1
    · rename_i a dd fs ea
      obtain ⟨rfl, rfl⟩ := ea
      exact ⟨v, cv, r, by rw [r1.1], hv, hk, fun d e => ⟨_, r1.2 d e⟩, h1.ok' .refl rl1 RD.bl_⟩
    · exact h1.elim
  · exact h1.elim
/-- e.f of the exception in hand -/
def eAttr (a0 : Addr) (d0 : Option Addr) (f : Str) (g : ED) : ED := fun ρ S => (g ρ S).bind fun d S1 => match d with
  | .xc a dd fs => if a = a0 ∧ dd = d0 ∧ d0.isSome = true then (match fs.lookup f with
    | some (.int i) => .ok (.int i) S1
    | some (.str x) => .ok (.str x) S1
    | _ => .st) else .st
  | _ => .st
theorem lookup_sVs {f : Str} {p : PyData} : ∀ {fs : List (Str × PyData)}, fs.lookup f = some p → (sVs fs).lookup f = some (sV p)
  | [], h => by cases h
  | (g, q) :: fs, h => by
    unfold sVs
    rw [List.map_cons]
    rw [List.lookup_cons] at h ⊢
    by_cases e : f == g
    · rw [e] at h ⊢
      simp only at h ⊢
      cases h
      rfl
    · have e : (f == g) = false := by simpa using e
      rw [e] at h ⊢
      exact lookup_sVs h
theorem de_attr {C0 : Addr} {n : Str} (T : XfC X.K C0) (hno : PySem.W.findIn X.K (.ref C0) n = some none) (hx : HX X a0 cn d0) (hc : X.mg cn = some (.ref C0)) (he : DE X W e fe) (hb : attributeBase e n X.env (eval e X.env) = eval e X.env := by rfl) : DE X W (.Attribute e n pos) (eAttr a0 d0 n fe) := by
  obtain ⟨t, q, i⟩ := he
  obtain ⟨oe, cls, hmem, ⟨_, vs0, hd, _⟩, hm, hz⟩ := hx
  rw [hc] at hm
  cases hm
  have pe : PE X (.Attribute e n pos) (fun σ H Q => t σ H fun x H1 => x = .ref a0 ∧ ∃ (d : Addr) (fs : List (Str × V)) (v : V), d0 = some d ∧ H1 d = some (.xd fs) ∧ fs.lookup n = some v ∧ Q v H1) := by
    refine ⟨fun pins s σ H Q I hw => ?_⟩
    refine attr_of hb (thn (q.run pins s σ H _ I hw) fun u s1 hh => ?_)
    obtain ⟨x, H1, I1, rx, rfl, d, fs, v, rfl, ea, l, qq⟩ := hh
    cases rx
    have g := (I1.pin (a0, oe) (List.mem_append_left _ hmem)).1
    obtain ⟨mA, hns, hr⟩ := (I1.hok d _ ea : ObjOk X.prog X.w H1 s1.heap d (.xd fs))
    obtain ⟨od, ho, hl⟩ := lookIn_ns hns
    obtain ⟨u, hu, ru⟩ := RelO.some_of (v := v) (o := mA n) (by rw [← l]; exact hr n)
    have J : PySem.W.InstAt s1.heap a0 oe C0 (some od) := ⟨g, hz.1, by unfold PySem.W.notCls; rw [hd] <;> rfl, by rw [hz.2.1]; exact ho⟩
    exact HandSPX.exc_get I1.kIn J T.ga T.gg T.exC (PySem.W.findObj_own T.hdC hno rfl (by rw [hl, hu])) (handed_of ru) ⟨v, H1, I1.tok _, ru, qq⟩
  refine ⟨_, pe, fun κ ρ S σ H m Q rl re h => ?_⟩
  refine i.seq rl re h fun d S1 u H1 m1 x1 rl1 re1 r1 h1 => ?_
  split at h1
  · split at h1
    · rename_i a dd fs ea
      obtain ⟨rfl, rfl, hs⟩ := ea
      obtain ⟨d1, rfl⟩ := Option.isSome_iff_exists.mp hs
      split at h1
      · rename_i i el
        exact ⟨r1.1, d1, _, _, rfl, r1.2 d1 rfl, lookup_sVs el, h1.ok' .refl rl1 RD.int_⟩
      · rename_i z el
        exact ⟨r1.1, d1, _, _, rfl, r1.2 d1 rfl, lookup_sVs el, h1.ok' .refl rl1 RD.str_⟩
      · exact h1.elim
    · exact h1.elim
  · exact h1.elim
/-! for over range -/
structure DIH (X : Cx) (W : WX) (tg iter : Expr) (f : Env → Sto → Rs IDt) : Prop where
  ex : ∃ wi : TI, L2H.PIH X tg iter wi ∧ Imp X W (fun K m S H (d : IDt) (J : It) => ItOk K m S H J d.1 d.2) wi f
theorem dih_range1 {tg : Expr} {p : Pos} {ga : AD} (hg : Gl X "range") (hm : X.mg "range" = none) (ha : DA X W [a] ga) (hs : starEach [a] X.env = [(false, eval a X.env)] := by rfl) : DIH X W tg (.Call (.Name "range" p) [a] [] pos) (iRgA ga) := by
  obtain ⟨t, q, i⟩ := ha
  refine ⟨_, L2H.pi_range1H hg hm q hs, fun κ ρ S σ H m Q rl re h => ?_⟩
  refine i.seq rl re h fun d S1 v H1 m1 x1 rl1 re1 r1 h1 => ?_
  split at h1
  · split at h1
    · rename_i i hi
      obtain ⟨u, rfl, q1⟩ := RDs1 r1
      have hi' := big62_iff hi
      rw [q1.int]
      exact ⟨i, rfl, hi'.1, hi'.2, h1.ok' .refl rl1 itr_ok⟩
    · exact h1.elim
  · exact h1.elim
theorem ds_forH {tg iter : Expr} {body : List Stmt} {f : Env → Sto → Rs IDt} {g : GD} {fb : SD} (hp : PassesOwn (model X.prog X.w) X.A X.env X.xe) (hx : HX X a0 cn d0) (hi : DIH X W tg iter f) (hg : DG X W tg g) (hb : DSs X W body fb)
    (hs : ∀ x, foldedSetIterable iter X.env x = pure x := by intro _; rfl) : DS X W (.For tg iter body [] pos) (sFor f g fb) := by
  obtain ⟨wi, pi, ii⟩ := hi
  obtain ⟨t, pg, ig⟩ := hg
  obtain ⟨tb, pb, ib⟩ := hb
  exact ⟨_, L2H.ps_forH hp hx.hot pi pg pb hs, imp_for ii ig ib⟩
end
/-! a list comprehension there -/
/-- the block's context, the exception in hand kept in sight -/
abbrev blkH (X : Cx) (s : Shared) (H : Hp) (scope : Scope) (ce : PySem.Env) (fp : List Addr) : Cx := { X.blk s H scope ce fp with pn := X.pn }
section
variable {X : Cx} {pins : List (Addr × Obj)} {σ : St} {H : Hp} {s : Shared} {scope : Scope} {own : List (Str × Nat)} {fp : List Addr}
theorem startH (I : Inv X pins σ H s) (ok : BlkOk X.N X.env.scope scope own) (hN : X.N.Nodup) (hfp : ∀ b ∈ fp, FpOk X pins H b ∧ b < s.heap.objs.size) :
    Inv (blkH X s H scope (compEnvC scope (cellsFrom (s.heap.objs.size + 1) scope.names (cloFrom X.env.cells scope.names [])) s.heap.objs.size X.env) fp) [] (L2.wipe σ (own.map (·.2))) H { s with heap := pushCells (s.heap.push { cls := .type "dict", data := .dict #[] }) scope.names } := by
  have J := block_start I ok hN hfp
  have o := J.ok
  refine ⟨⟨o.mod, o.kind, o.glob, o.blt, o.above, o.inj, o.has, o.cab, o.hd, o.frames, o.stk, o.exf, o.bs, o.bsz, o.noex, o.exfs, o.funs, o.frf⟩, J.os, J.bare, J.base, J.loc, J.cell, J.free, J.freeC, fun q hq => ?_, J.hok, J.len⟩
  have hq : q ∈ X.pn := by simpa using (show q ∈ X.pn ++ [] from hq)
  obtain ⟨e1, e2, e3, e4, e5⟩ := I.pin q (List.mem_append_left _ hq)
  refine ⟨pushCells_keeps _ _ _ _ (Heap.get?_push_of_some _ e1), e2, Nat.ne_of_lt (Heap.lt_size e1), fun z => ?_, e5⟩
  rcases List.mem_cons.mp (I.stkSub q.1 z) with z | z
  · exact e3 z
  · exact e4 z
theorem pe_lcH {elt tg iter : Expr} {ifs : List Expr} {pos : Pos} {wi : TI} {g : TG} {tt : TT} {te : TE} (hc : L2H.HotC X) (hN : X.N.Nodup) (hi : L2H.PIH X tg iter wi) (ok : BlkOk X.N X.env.scope scope own)
    (hg : ∀ (s : Shared) (H : Hp) (C : Addr) (cl : List (Str × Addr)) (fp : List Addr), PG (blkH X s H scope (compEnvC scope cl C X.env) fp) tg g)
    (ht : ∀ (s : Shared) (H : Hp) (C : Addr) (cl : List (Str × Addr)) (fp : List Addr), PTs (blkH X s H scope (compEnvC scope cl C X.env) fp) ifs tt)
    (he : ∀ (s : Shared) (H : Hp) (C : Addr) (cl : List (Str × Addr)) (fp : List Addr), PE (blkH X s H scope (compEnvC scope cl C X.env) fp) elt te)
    (hs : ∀ x, foldedSetIterable iter X.env x = pure x := by intro _; rfl) : PE X (.ListComp elt [⟨tg, iter, ifs, 0⟩] scope pos) (tLc wi g tt te (own.map (·.2))) := by
  refine ⟨fun pins s σ H Q I hw => ?_⟩
  rw [eval_ListComp]
  have clo : closureFor scope X.env = pure (cloFrom X.env.cells scope.names []) := closure_ok fun y hy e => by
    rcases ok.free y hy e with q | q
    · exact I.ok.has _ (.inl q)
    · exact I.ok.has _ (.inr q)
  have hHot : ∀ (s : Shared) (H : Hp) (ce : PySem.Env) (fp : List Addr), L2H.HotC (blkH X s H scope ce fp) := fun _ _ _ _ => hc
  refine wpAny_comprehension_free (use := none) rfl hs clo ok.kind (fun y hy e => by rw [ok.uniq y hy, e]) (thn (hi.run pins s σ H _ I hw) fun xv sa hx => thn hx fun itv sb hb => ?_)
  obtain ⟨it, fp, tn, J, Hb, rfl, Ib, T, stb, fb, q⟩ := hb
  refine wpAny_newObj_type (newEnv_comp ?_) (Nat.zero_le _)
  -- the list that grows stands at L
  obtain ⟨L, hL⟩ : ∃ L, L = sb.heap.objs.size := ⟨_, rfl⟩
  have free : Hb L = none := Ib.hok.fresh (Nat.le_of_eq hL.symm)
  obtain ⟨Wv, ⟨m0, w0⟩, turn⟩ := q L free
  obtain ⟨sc, hsc⟩ : ∃ sc : Shared, sc = { sb with heap := sb.heap.push { cls := .type "list", data := .seq ([] : List Value).toArray } } := ⟨_, rfl⟩
  have hsz : sb.heap.objs.size < sc.heap.objs.size := by rw [hsc]; show _ < (Heap.push _ _).objs.size; rw [Heap.size_push]; exact Nat.lt_succ_self _
  have kbc : ∀ b o, sb.heap.get? b = some o → sc.heap.get? b = some o := fun b o e => by rw [hsc]; exact Heap.get?_push_of_some _ e
  have Ic : Inv X pins σ (upd Hb L (.lst [])) sc := by
    rw [hsc, hL]
    exact Ib.laid (t' := sb.toks) (fun b o e => Heap.get?_push_of_some _ e) (Nat.le_refl _) ⟨Nat.zero_le _, [], 0, .nil, Heap.get?_push_size _ rfl⟩
  have fc : ∀ b ∈ fp, FpOk X pins (upd Hb L (.lst [])) b ∧ b < sc.heap.objs.size := fun b hb => by
    obtain ⟨o, e, _⟩ := T.obj _ _ stb b hb
    have lt := Heap.lt_size e
    refine ⟨⟨?_, (fb b hb).2⟩, Nat.lt_trans lt hsz⟩
    rw [upd_ne (by rw [hL]; exact Nat.ne_of_lt lt)]
    exact (fb b hb).1
  have Id := startH Ic ok hN fc
  have pg := hg sc (upd Hb L (.lst [])) sc.heap.objs.size (cellsFrom (sc.heap.objs.size + 1) scope.names (cloFrom X.env.cells scope.names [])) fp
  have pt := ht sc (upd Hb L (.lst [])) sc.heap.objs.size (cellsFrom (sc.heap.objs.size + 1) scope.names (cloFrom X.env.cells scope.names [])) fp
  have pe := he sc (upd Hb L (.lst [])) sc.heap.objs.size (cellsFrom (sc.heap.objs.size + 1) scope.names (cloFrom X.env.cells scope.names [])) fp
  have hot := hHot sc (upd Hb L (.lst [])) (compEnvC scope (cellsFrom (sc.heap.objs.size + 1) scope.names (cloFrom X.env.cells scope.names [])) sc.heap.objs.size X.env) fp
  have std : tn 0 (pushCells (sc.heap.push { cls := .type "dict", data := .dict #[] }) scope.names) := T.keep _ _ _ stb fun b _ o e => pushCells_keeps _ _ _ _ (Heap.get?_push_of_some _ (kbc b o e))
  rw [← hL, ← hsc]
  show codeAny _ _ (.compStart (.ListComp elt [⟨tg, iter, ifs, 0⟩] scope pos) 0 (.ref it) (.ref L) (compEnvC scope (cellsFrom (sc.heap.objs.size + 1) scope.names (cloFrom X.env.cells scope.names [])) sc.heap.objs.size X.env)) (compPost (model X.prog X.w) X.A X.xe none _ (.ref L) sc.heap.objs.size)
    { sc with heap := pushCells (sc.heap.push { cls := .type "dict", data := .dict #[] }) scope.names }
  obtain ⟨ce, hce⟩ : ∃ ce, ce = compEnvC scope (cellsFrom (sc.heap.objs.size + 1) scope.names (cloFrom X.env.cells scope.names [])) sc.heap.objs.size X.env := ⟨_, rfl⟩
  have hcl : ce.locals = sc.heap.objs.size := by rw [hce]; rfl
  rw [← hce] at Id pg pt pe hot ⊢
  obtain ⟨Hc, hHc⟩ : ∃ Hc, Hc = upd Hb L (.lst []) := ⟨_, rfl⟩
  rw [← hHc] at Ic Id pg pt pe hot w0 fc
  obtain ⟨sd, hsd⟩ : ∃ sd : Shared, sd = { sc with heap := pushCells (sc.heap.push { cls := .type "dict", data := .dict #[] }) scope.names } := ⟨_, rfl⟩
  rw [← hsd] at Id ⊢
  have std : tn 0 sd.heap := by rw [hsd]; exact std
  let Y := blkH X sc Hc scope ce fp
  have fpY : ∀ {τ : St} {H' : Hp} {s' : Shared}, Inv Y [] τ H' s' → (∀ b ∈ fp, H' b = none) → ∀ b ∈ fp, FpOk Y [] H' b := fun {τ H' s'} I' hn b hb => by
    refine ⟨hn b hb, (I'.ok.exf b hb).1, I'.ok.exfs b hb, .inl hb, fun x c e => (I'.ok.exf b hb).2 x c e, fun p hp => ?_⟩
    have hp : p ∈ X.pn := by simpa using (show p ∈ X.pn ++ [] from hp)
    exact (fc b hb).1.2.2.2.2.2 p (List.mem_append_left _ hp)
  have loop : codeAny (model X.prog X.w) X.A (.compLoop (.ListComp elt [⟨tg, iter, ifs, 0⟩] scope pos) 0 (.ref it) (.ref L) ce) (compPost (model X.prog X.w) X.A X.xe none (fun v s' => ∃ x H', Inv X pins σ H' s' ∧ RelV x v ∧ Q x H') (.ref L) sc.heap.objs.size) sd := by
    refine compLoop_any (fun n s' => ∃ i H', Wv i n H' ∧ Inv Y [] (L2.wipe σ (own.map (·.2))) H' s' ∧ tn i s'.heap ∧ ∀ b ∈ fp, H' b = none) ?_ m0 ⟨0, Hc, w0, Id, std, fun b hb => (fc b hb).1.1⟩
    rintro n s5 ⟨i, H5, w5, I5, st5, n5⟩
    rcases turn i n H5 w5 with ⟨stop, fin⟩ | ⟨go, Nxt, hNxt, step⟩
    · refine thnF (T.done Y rfl rfl rfl hot i [] s5 _ H5 (fun _ _ => False) I5 (fpY I5 n5) st5 stop) fun r s6 hr => ?_
      obtain ⟨rfl, I6⟩ := hr
      have back : Inv X pins σ H5 s6 := Ic.call' (ch := fp) I6.os I6.base I6.hok I6.bare fun b hb => by
        obtain ⟨_, f1, _, f3, f4, f5⟩ := (fc b hb).1
        exact ⟨f3, f1, f4, f5⟩
      have nC : H5 sc.heap.objs.size = none := by rw [← hcl]; exact I6.free
      obtain ⟨mm, hmm, _⟩ := I6.loc
      have hmm : s6.heap.Ns ce.locals mm := hmm
      rw [hcl] at hmm
      refine ⟨mm, hmm, fun h' but => ?_⟩
      obtain ⟨f0, f1, f2, f3, f4, f5⟩ := Ic.fpOk (Nat.le_refl _) nC
      exact ⟨.ref L, H5, back.turned (t' := s6.toks) (fun b o hb e => (but.2 b hb).trans e) f0 f1 f3 f4 f5, rfl, fin⟩
    · refine thnF (T.item Y rfl rfl rfl hot i [] s5 _ H5 (fun _ _ => False) I5 (fpY I5 n5) st5 go) fun r s6 hr => ?_
      obtain ⟨u, rfl, h6⟩ := hr
      refine thnF h6 fun _ s7 h7 => ?_
      obtain ⟨x, H7, I7, r7, y7, st7, n7⟩ := h7
      have Ip := I7.pinned (fpY I7 n7) (T.obj _ _ st7)
      refine thnF (pg.run _ s7 _ H7 x u _ Ip r7 (step x H7 y7)) fun _ s8 h8 => ?_
      obtain ⟨τ, H8, I8, wp8, q8⟩ := h8
      refine thnF (pt.run _ s8 τ H8 _ I8 q8) fun b s9 h9 => ?_
      obtain ⟨H9, I9, q9⟩ := h9
      have again : ∀ {s' : Shared} {H' : Hp}, Inv Y ([] ++ pinsAt fp s7.heap) τ H' s' → Nxt H' → ∃ m, m < n ∧ ∃ i H', Wv i m H' ∧ Inv Y [] (L2.wipe σ (own.map (·.2))) H' s' ∧ tn i s'.heap ∧ ∀ b ∈ fp, H' b = none := fun {s' H'} I' nx => by
        obtain ⟨m', hm, w'⟩ := hNxt H' nx
        have kept : ∀ b ∈ fp, ∀ o, s7.heap.get? b = some o → s'.heap.get? b = some o ∧ H' b = none := fun b hb o e => by
          have z := I'.pin (b, o) (List.mem_append_right _ (List.mem_append_right _ (mem_pinsAt hb e)))
          exact ⟨z.1, z.2.1⟩
        have ln : (L2.wipe σ (own.map (·.2))).length = τ.length := by rw [← wp8, wipe_length]
        refine ⟨m', hm, i + 1, H', w', (I'.unpinned (pins := [])).weak ln (fun j v e => ?_), T.keep _ _ _ st7 fun b hb o e => (kept b hb o e).1, fun b hb => ?_⟩
        · rw [← wp8] at e
          exact (wipe_some e).1
        · obtain ⟨o, e, _⟩ := T.obj _ _ st7 b hb
          exact (kept b hb o e).2
      cases b with
      | false => exact again I9 q9
      | true =>
        refine thnF (pe.run _ s9 τ H9 _ I9 q9) fun z s10 h10 => ?_
        obtain ⟨yv, H10, I10, r10, acc, hL10, hz10, nx⟩ := h10
        exact app_ok (X := Y) I10 hL10 hz10 r10 fun s11 I11 => again I11 nx
  exact codeAny_compStart_list loop (T.self X.A 0 _ _ _ std loop)
end
section
variable {X : Cx} {W : WX} {a0 : Addr} {cn : Str} {d0 : Option Addr} {pos : Pos}
variable {elt tg iter : Expr} {ifs : List Expr} {scope : Scope} {own : List (Str × Nat)} {fi : Env → Sto → Rs IDt} {g : GD} {c : BD} {f : ED}
theorem de_lcH (hx : HX X a0 cn d0) (hN : X.N.Nodup) (hi : DIH X W tg iter fi) (ok : BlkOk X.N X.env.scope scope own)
    (hg : ∀ (s : Shared) (H : Hp) (C : Addr) (cl : List (Str × Addr)) (fp : List Addr), DGw (blkH X s H scope (compEnvC scope cl C X.env) fp) tg (own.map fun x => x.2) g)
    (ht : ∀ (s : Shared) (H : Hp) (C : Addr) (cl : List (Str × Addr)) (fp : List Addr), DTs (blkH X s H scope (compEnvC scope cl C X.env) fp) (fun _ _ _ _ => False) ifs c)
    (he : ∀ (s : Shared) (H : Hp) (C : Addr) (cl : List (Str × Addr)) (fp : List Addr), DE (blkH X s H scope (compEnvC scope cl C X.env) fp) (fun _ _ _ _ => False) elt f)
    (hs : ∀ x, foldedSetIterable iter X.env x = pure x := by intro _; rfl) : DE X W (.ListComp elt [⟨tg, iter, ifs, 0⟩] scope pos) (eLc fi g c f (own.map fun x => x.2)) := by
  obtain ⟨wi, pi, ii⟩ := hi
  exact ⟨_, @pe_lcH X scope own elt tg iter ifs pos wi (canG X (List.map (fun (x : Str × Nat) => x.2) own) g) (can X (fun _ _ _ _ => False) RB c) (can X (fun _ _ _ _ => False) RD f) hx.hot hN pi ok (fun s H C cl fp => (hg s H C cl fp).run) (fun s H C cl fp => (ht s H C cl fp).run) (fun s H C cl fp => (he s H C cl fp).can) hs, imp_lc ii⟩
end
/-- what is never reached -/
theorem de_any {X : Cx} {W : WX} {e : Expr} : DE X W e (fun _ _ => .st) := ⟨fun _ _ _ => False, ⟨fun _ _ _ _ _ _ h => h.elim⟩, fun _ _ _ _ _ _ _ _ _ h => h.elim⟩
theorem roomH_mark {j : Nat} {A : Around} {v : Option Value} (r : Room j A) : L2H.RoomH j (A.mark v) := ⟨r.dp, r.un⟩
end DL

namespace DL
open PySem PySem.Spec PyProof.Rows L2
/-! ### what a def does, by its body -/
open Classical in
/-- of what stands behind the body, what the caller sees -/
noncomputable def pick (S S' : Sto) (d : D) : Rs D :=
  if S.length ≤ S'.length ∧ ClS S.length (S'.take S.length) ∧ ClD S.length d then .ok d (S'.take S.length)
  else if S.length ≤ S'.length ∧ ClS S'.length S' ∧ ClD S'.length d then .ok d S' else .st
open Classical in
noncomputable def pickX (S S' : Sto) (x : Xc) : Rs D := if S.length ≤ S'.length ∧ ClS S.length (S'.take S.length) then .ex x (S'.take S.length) else .st
noncomputable def gB (N : List Str) (F : SD) : FD := fun ds S => match F (start0 N ds) S with
  | .rt d S' => pick S S' d
  | .nx _ S' => pick S S' .non
  | .ex x _ S' => pickX S S' x
  | _ => .st
theorem gB_dn (N : List Str) (F : SD) (ds : List D) (S : Sto) : Dn S (F (start0 N ds) S) (gB N F ds S) := by
  unfold gB
  cases e : F (start0 N ds) S with
  | st => trivial
  | bk _ _ => trivial
  | ct _ _ => trivial
  | rt d S' =>
    show Dn S _ (pick S S' d)
    unfold pick
    split
    · rename_i h
      have hl : (S'.take S.length).length = S.length := by rw [List.length_take]; omega
      exact ⟨by rw [hl]; exact Nat.le_refl _, by rw [hl]; exact h.2.1, by rw [hl]; exact h.2.2, .inl ⟨S'.drop S.length, by rw [List.take_append_drop]⟩⟩
    · split
      · rename_i h
        exact ⟨h.1, h.2.1, h.2.2, .inl ⟨[], by rw [List.append_nil]⟩⟩
      · trivial
  | nx ρ S' =>
    show Dn S _ (pick S S' .non)
    unfold pick
    split
    · rename_i h
      have hl : (S'.take S.length).length = S.length := by rw [List.length_take]; omega
      exact ⟨by rw [hl]; exact Nat.le_refl _, by rw [hl]; exact h.2.1, by rw [hl]; exact h.2.2, .inr ⟨rfl, ρ, S'.drop S.length, by rw [List.take_append_drop]⟩⟩
    · split
      · rename_i h
        exact ⟨h.1, h.2.1, h.2.2, .inr ⟨rfl, ρ, [], by rw [List.append_nil]⟩⟩
      · trivial
  | ex x ρ S' =>
    show Dn S _ (pickX S S' x)
    unfold pickX
    split
    · rename_i h
      have hl : (S'.take S.length).length = S.length := by rw [List.length_take]; omega
      exact ⟨by rw [hl]; exact Nat.le_refl _, by rw [hl]; exact h.2, ρ, S'.drop S.length, by rw [List.take_append_drop]⟩
    · trivial
theorem take_left' {S2 T : Sto} {n : Nat} (h : S2.length = n) : (S2 ++ T).take n = S2 := by rw [← h, List.take_left']; rfl
theorem gB_rt {N : List Str} {F : SD} {ds : List D} {S S2 T : Sto} {d : PyData} (e : F (start0 N ds) S = .rt (.p d) (S2 ++ T)) (hl : S2.length = S.length) (hc : ClS S.length S2) : gB N F ds S = .ok (.p d) S2 := by
  unfold gB
  rw [e]
  show pick S (S2 ++ T) (.p d) = _
  unfold pick
  rw [take_left' hl, if_pos ⟨by rw [List.length_append]; omega, hc, trivial⟩]
theorem gB_nx {N : List Str} {F : SD} {ds : List D} {S S2 T : Sto} {ρ : Env} (e : F (start0 N ds) S = .nx ρ (S2 ++ T)) (hl : S2.length = S.length) (hc : ClS S.length S2) : gB N F ds S = .ok .non S2 := by
  unfold gB
  rw [e]
  show pick S (S2 ++ T) .non = _
  unfold pick
  rw [take_left' hl, if_pos ⟨by rw [List.length_append]; omega, hc, trivial⟩]
theorem gB_ex {N : List Str} {F : SD} {ds : List D} {S S2 T : Sto} {ρ : Env} {x : Xc} (e : F (start0 N ds) S = .ex x ρ (S2 ++ T)) (hl : S2.length = S.length) (hc : ClS S.length S2) : gB N F ds S = .ex x S2 := by
  unfold gB
  rw [e]
  show pickX S (S2 ++ T) x = _
  unfold pickX
  rw [take_left' hl, if_pos ⟨by rw [List.length_append]; omega, hc⟩]
section
variable {P : Program} {w : World} {K : PySem.W.Frag} {mg : Str → Option Value} {base : Heap}
abbrev FunS (K : PySem.W.Frag) (x : Str) (st : Stmt) (f : Addr) (fd : FuncData) : Prop := FunD K x x (defArgs st) (defBody st) (defScope st) [] [] f fd
abbrev BindsAs (x : Str) (st : Stmt) (ps : List Str) : Prop := ∀ (kV doc pm : Value) (an : Option Addr) (cdv ct : Value) (us : List Value), us.length = ps.length → bindArgs (PySem.W.fnOf x x (defArgs st) (defBody st) (defScope st) .none kV doc pm an cdv ct) ⟨us, []⟩ = pure (ps.zip us)
/-- a def is what its body says -/
theorem fn_dl {x : Str} {st : Stmt} {f : Addr} {fd : FuncData} {N ps : List Str} {k n : Nat} {F : SD} (Fu : FunS K x st f fd) (Sc : FnScope N ps (defScope st)) (gm : mg x = some (.ref f)) (bd : BindsAs x st ps) (hn : ps.length = n)
    (body : ∀ (cdv : Value) (A : Around) (outer : List PySem.Env) (s : Shared) (H : Hp) (E : XK), Room k (A.deeper (envOfC x (defScope st) s.heap.objs.size f cdv)) →
      DSs (cxOf CX0 P w K mg base N x (defScope st) f cdv A outer s H E).nox (fun _ _ _ _ => False) (defBody st) F) : FnD P w K mg base (k + 1) x n (gB N F) := by
  refine ⟨f, fd, ps, hn, gm, Fu.kp, Fu.bindsN bd, Fu.ok (CX := CX0) Sc (fun vs H Q E h => h.1.trans hn.symm) fun cdv A outer s H vs Q E hr h => ?_⟩
  obtain ⟨hl, κ, ds, S, m, rl, rd, po⟩ := h
  obtain ⟨t, pt, it⟩ := body cdv A outer s H E hr
  refine ⟨t, pt.nox, it κ (start0 N ds) S (L2.start N vs) H m _ rl (RE_start rd) ?_⟩
  refine post_of (E := fun _ _ _ => False) rl (gB_dn N F ds S) ?_ (fun _ _ _ _ z => z)
  have po : PostF ⟨K, κ, mg⟩ mg m S H (noEx (gB N F ds S)) Q E := po
  cases e : gB N F ds S with
  | st => rw [e] at po; exact po.elim
  | ok d S' => rw [e] at po; exact po
  | ex y S' => rw [e] at po; exact po.elim
theorem fn_dlN {x : Str} {st : Stmt} {f : Addr} {fd : FuncData} {N ps : List Str} {k n : Nat} {F : SD} (Fu : FunS K x st f fd) (Sc : FnScope N ps (defScope st)) (gm : mg x = some (.ref f)) (bd : BindsAs x st ps) (hn : ps.length = n)
    (body : ∀ (cdv : Value) (A : Around) (outer : List PySem.Env) (s : Shared) (H : Hp) (E : XK), Room k (A.deeper (envOfC x (defScope st) s.heap.objs.size f cdv)) →
      DSs (cxOf (L2N.CX P w) P w K mg base N x (defScope st) f cdv A outer s H E) (fun cls d _ H => E cls d H) (defBody st) F) : FnN P w K mg base (k + 1) x n (gB N F) := by
  refine ⟨f, fd, ps, hn, gm, Fu.kp, Fu.bindsN bd, Fu.ok (CX := L2N.CX P w) Sc (fun vs H Q E h => h.1.trans hn.symm) fun cdv A outer s H vs Q E hr h => ?_⟩
  obtain ⟨hl, κ, ds, S, m, rl, rd, po⟩ := h
  obtain ⟨t, pt, it⟩ := body cdv A outer s H E hr
  refine ⟨t, pt, it κ (start0 N ds) S (L2.start N vs) H m _ rl (RE_start rd) ?_⟩
  exact post_of (E := E) rl (gB_dn N F ds S) po (fun _ _ _ _ z => z)
theorem fn_dlK {x : Str} {st : Stmt} {f : Addr} {fd : FuncData} {N ps : List Str} {k n : Nat} {cn : Str} {dk : Bool} {F : Addr → Option Addr → SD} (Fu : FunS K x st f fd) (Sc : FnScope N ps (defScope st)) (gm : mg x = some (.ref f)) (bd : BindsAs x st ps) (hn : ps.length = n)
    (body : ∀ (cdv : Value) (A : Around) (outer : List PySem.Env) (s : Shared) (H : Hp) (E : XK) (p : Addr × Obj) (d : Option Addr), d.isSome = dk → L2H.RoomH k (A.deeper (envOfC x (defScope st) s.heap.objs.size f cdv)) → HX (hotX P w K mg base N x st f cdv A outer s H E p) p.1 cn d →
      DSs (hotX P w K mg base N x st f cdv A outer s H E p) (fun _ _ _ _ => False) (defBody st) (F p.1 d)) : FnK P w K mg base (k + 1) x n cn dk (fun a d => gB N (F a d)) := by
  subst hn
  have key : ∀ (oc : Value) (od : Option Addr) (dV kV doc pm : Value) (an : Option Addr) (cdv ct : Value) (osl : Array (Option Value)), fd = PySem.W.fnOf x x (defArgs st) (defBody st) (defScope st) dV kV doc pm an cdv ct → K.lookup f = some ⟨oc, od, .func fd, osl⟩ → PySem.W.codeIn K cdv x = true → dV = .none → Fun K x x st f fd := by
    rintro oc od dV kV doc pm an cdv ct osl rfl l c rfl
    exact ⟨⟨oc, od, kV, doc, pm, an, cdv, ct, osl, rfl, l, c⟩, Fu.kp⟩
  obtain ⟨oc, od, dV, kV, doc, pm, an, cdv, ct, osl, e, l, c, dv, _⟩ := Fu.ex
  have hdV : dV = .none := by
    rcases dv with ⟨_, h⟩ | ⟨h, _⟩
    · exact h
    · exact absurd rfl h
  exact Fun.dlK (key oc od dV kV doc pm an cdv ct osl e l c hdV) Sc gm (Fu.bindsN bd) body (fun a d ds S _ _ _ => gB_dn N (F a d) ds S)
end
section
variable {P : Program} {w : World} {K : PySem.W.Frag} {mg : Str → Option Value} {base : Heap}
theorem fnD_st {x : Str} {st : Stmt} {f : Addr} {fd : FuncData} {ps : List Str} {k n : Nat} (Fu : FunS K x st f fd) (gm : mg x = some (.ref f)) (bd : BindsAs x st ps) (hn : ps.length = n) : FnD P w K mg base k x n (fun _ _ => .st) := by
  refine ⟨f, fd, ps, hn, gm, Fu.kp, Fu.bindsN bd, ⟨fun vs H Q E h => h.1.trans hn.symm, fun A outer s H ar us vs Q E hr e0 hb r h => ?_⟩⟩
  obtain ⟨_, _, _, _, _, _, _, po⟩ := h
  exact po.elim
theorem fn_okS {x : Str} {st : Stmt} {f : Addr} {fd : FuncData} {N ps : List Str} {k n : Nat} {F : SD} (Fu : FunS K x st f fd) (Sc : FnScope N ps (defScope st))
    (body : ∀ (cdv : Value) (A : Around) (outer : List PySem.Env) (s : Shared) (H : Hp) (E : XK), Room k (A.deeper (envOfC x (defScope st) s.heap.objs.size f cdv)) →
      DSs (cxOf CX0 P w K mg base N x (defScope st) f cdv A outer s H E).nox (fun _ _ _ _ => False) (defBody st) F) (hn : ps.length = n := by rfl) : FnOk P w K mg base CX0 (k + 1) f fd ps (spOf K mg n fun ds S => noEx (gB N F ds S)) := by
  refine Fu.ok (CX := CX0) Sc (fun vs H Q E h => h.1.trans hn.symm) fun cdv A outer s H vs Q E hr h => ?_
  obtain ⟨hl, κ, ds, S, m, rl, rd, po⟩ := h
  obtain ⟨t, pt, it⟩ := body cdv A outer s H E hr
  refine ⟨t, pt.nox, it κ (start0 N ds) S (L2.start N vs) H m _ rl (RE_start rd) ?_⟩
  refine post_of (E := fun _ _ _ => False) rl (gB_dn N F ds S) ?_ (fun _ _ _ _ z => z)
  have po : PostF ⟨K, κ, mg⟩ mg m S H (noEx (gB N F ds S)) Q E := po
  cases e : gB N F ds S with
  | st => rw [e] at po; exact po.elim
  | ok d S' => rw [e] at po; exact po
  | ex y S' => rw [e] at po; exact po.elim
theorem funS_same {x : Str} {st : Stmt} {f : Addr} {fd fd' : FuncData} (a : FunS K x st f fd) (b : FunS K x st f fd') : fd = fd' := by
  obtain ⟨_, _, _, _, _, _, _, _, _, _, _, l1, _⟩ := a.ex
  obtain ⟨_, _, _, _, _, _, _, _, _, _, _, l2, _⟩ := b.ex
  have e := l1.symm.trans l2
  injection e with e
  injection e with _ _ e _
  injection e
end
/-! ### the head -/
/-- what is seen: what the module's names reach, and the interpreter's own statics -/
def asM (g : Addr → Option Obj) (n : Nat) : List Addr := He.asD g n ++ [cStatics]
/-- more that is seen of the top -/
def hookM (n : Nat) (fa : List He.Fa) (fn : List He.DefD) (more : PySem.W.Frag → Bool) : PySem.W.Hook where
  α := He.AlD × Bool
  obs := fun s => (He.obsD fa fn (He.frG s.heap.get? (asM s.heap.get? n)), more (He.frG s.heap.get? (asM s.heap.get? n)))
  val := fun _ => (He.valD fn, true)
  says := fun _ h => ∃ K : PySem.W.Frag, K.In h ∧ He.SaysD fa fn K ∧ more K = true
  of := fun _ _ e => ⟨_, He.frG_in, congrArg Prod.fst e, congrArg Prod.snd e⟩
  keeps := fun _ _ _ ⟨K, hK, c⟩ k => ⟨K, PySem.W.Frag.In.keeps hK k, c⟩
def obM (n : Nat) (fa : List He.Fa) (fn : List He.DefD) (more : PySem.W.Frag → Bool) (s : PySem.W.SharedT) : He.AlD × Bool := (He.obsD fa fn (He.frG (HandSHeadRun.getT s) (asM (HandSHeadRun.getT s) n)), more (He.frG (HandSHeadRun.getT s) (asM (HandSHeadRun.getT s) n)))
theorem obM_eq {n : Nat} {fa : List He.Fa} {fn : List He.DefD} {more : PySem.W.Frag → Bool} (s : PySem.W.SharedT) : obM n fa fn more s = (hookM n fa fn more).obs s.abs := by
  have e : HandSHeadRun.getT s = s.abs.heap.get? := funext (HandSHeadRun.getT_eq s)
  unfold obM
  rw [e]
  rfl
/-- an own class of exceptions that isinstance may be asked of -/
def excB (K : PySem.W.Frag) (D0 : Addr) : Bool :=
  He.eqO (PySem.W.findIn K (.ref D0) "__getattribute__") (some (some (.builtin "BaseException.__getattribute__"))) && (He.eqO (PySem.W.findIn K (.ref D0) "__getattr__") (some none) && (decide (PySem.W.subIn K (.ref D0) (.type "BaseException") = some true) && (PySem.W.hasDictIn K D0 &&
  (He.eqO (PySem.W.findIn K (.ref D0) "__class__") (some (some (.builtin "object.__class__"))) && (He.eqO (PySem.W.specialIn K (.builtin "object.__class__") "__get__") (some (some (.builtin "getset_descriptor.__get__"))) && (decide (PySem.W.takesIn K (.builtin "object.__class__") = some true) && decide (PySem.W.mroIn K D0 (.type "object") = some true)))))))
theorem excB_ok {K : PySem.W.Frag} {D0 : Addr} (h : excB K D0 = true) : ExcC K D0 := by
  unfold excB at h
  simp only [Bool.and_eq_true] at h
  obtain ⟨h1, h2, h3, h4, h5, h6, h7, h8⟩ := h
  exact ⟨He.eqO_ok h1, He.eqO_ok h2, of_decide_eq_true h3, h4, He.eqO_ok h5, He.eqO_ok h6, of_decide_eq_true h7, of_decide_eq_true h8⟩
def kitB1 (K : PySem.W.Frag) (a : Value) (c : Value) (b : Bool) : Bool := decide (PySem.W.kitOne K a c = some b)
/-- the law's end -/
theorem law_sp {K : PySem.W.Frag} {mg : Str → Option Value} {g : FD} {H : Hp} {a : Addr} {ns : List Int} {S' : Sto} (hO : Only H) (hS : SqL K H a (ns.map V.int)) (e : g [.scr ns] [] = .ok (.bl true) S') :
    spOf K mg 1 (fun ds S => noEx (g ds S)) [.ref a] H (fun v _ => v = .bl true) (fun _ _ _ => False) := by
  refine ⟨rfl, fun _ => False, [.scr ns], [], [], ⟨rfl, List.nodup_nil, fun _ h => h.elim, fun n a o h => by simp at h⟩, .cons ⟨a, rfl, ?_⟩ .nil, ?_⟩
  · rcases hS with (h | ⟨o, h⟩) | h
    · rcases hO a with z | ⟨o, xs, z⟩
      · rw [z] at h; cases h
      · rw [z] at h; cases h
    · exact .inl ⟨o, h⟩
    · exact .inr (.inr h)
  · show PostF _ _ _ _ _ (noEx (g [.scr ns] [])) _ _
    rw [e]
    intro v H' m' _ _ r
    have r : RP _ _ _ _ _ := r
    rw [RP] at r
    exact r
end DL

namespace DL
open PySem PySem.Spec PyProof.Rows L2
/-! ### own exceptions with a making of their own -/
def oexB (K : PySem.W.Frag) (C : Addr) : Bool := (match K.lookup C with
  | some ⟨.type t, _, .cls cd, sl⟩ => (match cd.mro, sl.toList with
    | .ref c0 :: bm, [_, _, _, _, some (.builtin n), _] => decide (t = "type") && (decide (c0 = C) && (decide (n = "ValueError.__new__") && (!cd.hasDel && (cd.hasDict && PySem.HandSPX.refsVE bm))))
    | _, _ => false)
  | _ => false) && (He.eqO (PySem.W.findIn K (.ref C) "__setattr__") (some (some (.builtin "object.__setattr__"))) && (decide (PySem.W.subIn K (.ref C) (.type "BaseException") = some true) && (decide (PySem.W.typeIn K (.ref C) = some (.type "type")) && PySem.W.keepIn K (.ref C))))
theorem oexB_ok {K : PySem.W.Frag} {C : Addr} (h : oexB K C = true) : OexC K C := by
  unfold oexB at h
  simp only [Bool.and_eq_true] at h
  obtain ⟨h1, h2, h3, h4, h5⟩ := h
  refine ⟨?_, He.eqO_ok h2, of_decide_eq_true h3, of_decide_eq_true h4, h5⟩
  split at h1
  · rename_i t dd cd sl hk
    split at h1
    · rename_i c0 bm k0 k1 k2 k3 n k5 hm hs
      simp only [Bool.and_eq_true, decide_eq_true_eq, Bool.not_eq_true'] at h1
      obtain ⟨rfl, rfl, rfl, hdel, hd, hv⟩ := h1
      obtain ⟨nm, bs, mro, ns, qn, hdct, sn, sub, ab, col, del⟩ := cd
      dsimp only at hm hdel hd
      subst hm hdel hd
      have hsl : sl = #[k0, k1, k2, k3, some (.builtin "ValueError.__new__"), k5] := by
        obtain ⟨l⟩ := sl
        simp only at hs
        rw [hs]
      subst hsl
      exact ⟨nm, qn, ns, bs, bm, sn, sub, ab, col, dd, k0, k1, k2, k3, k5, hk, hv⟩
    · cases h1
  · cases h1
section
variable {X : Cx} {e : Expr} {es : List Expr} {ta : TA} {p1 p2 pos : Pos}
/-- P.__init__(self, ..), P an own class that makes as ValueError does -/
theorem pe_clsinit {pl : Sem Bool} {x : Str} {P0 : Addr} (hg : Gl X x) (hm : X.mg x = some (.ref P0)) (hr : PySem.W.readsIn X.K P0 (.type "type") = true) (vV : PySem.W.findCls X.K (.ref P0) (.type "type") "__init__" = some (.val (.builtin "ValueError.__init__")))
    (hs : PySem.W.specialIn X.K (.ref P0) "__getattribute__" = some (some (.builtin "type.__getattribute__"))) (ha : PA X (e :: es) ta)
    (hc : eval (.Call (.Attribute (.Name x p1) "__init__" p2) (e :: es) [] pos) X.env = (do
      let ov ← eval (.Name x p1) X.env
      standAt p2.atName
      let (f, first) ← holding [ov] (getMethod ov "__init__" pl)
      callWith pos f first (backTo pos (starEach (e :: es) X.env)) (backToKw pos (keywordEach [] X.env))) := by rfl)
    (he : starEach (e :: es) X.env = (false, eval e X.env) :: starEach es X.env := by rfl) (hpl : (backTo pos (starEach es X.env)).any (·.1) = false := by rfl) (hd : (x == ("__debug__" : Str)) = false := by decide) :
    PE X (.Call (.Attribute (.Name x p1) "__init__" p2) (e :: es) [] pos) (tVeI X.K ta) := by
  refine ⟨fun pins s σ H Q I hw => ?_⟩
  refine PySem.W.methodCall_KW (ld_glob I hg hm ?_ hd) hc
  refine PySem.W.method_cls I.kIn hs (PySem.W.cls_value I.kIn hr vV (by decide +kernel) ?_)
  show wpAny _ _ (callWith pos (Value.builtin "ValueError.__init__") [] (backTo pos (starEach (e :: es) X.env)) []) _ _ _
  refine PyProof.Rows.callWith_method1 (thn (ha.run pos pins _ σ H _ (I.tok _) hw) fun us s1 hv => ?_) he hpl
  obtain ⟨vs, H1, I1, r1, a, C, ws, rfl, hl, T, ea, q⟩ := hv
  rcases r1 with _ | ⟨r0, rr⟩
  cases r0
  exact oinit_ok T I1 ea (by rw [← Paired.length rr, sizeLine_eq]; omega) fun s' J => ⟨.non, H1, J, rfl, q⟩
end
/-- bare things -/
def scalP : D → Option PyData
  | .p (.int i) => some (.int i)
  | .p (.str x) => some (.str x)
  | .p (.bool b) => some (.bool b)
  | _ => none
def scalL : List D → Option (List PyData)
  | [] => some []
  | d :: ds => match scalP d, scalL ds with
    | some p, some ps => some (p :: ps)
    | _, _ => none
theorem scalL_ok {K : Kh} {m : List Addr} {S : Sto} {H : Hp} : ∀ {ds : List D} {vs : List V} {ps : List PyData}, RDs K m S H ds vs → scalL ds = some ps → vs = ps.map sV
  | [], vs, ps, r, e => by
    cases r
    cases e
    rfl
  | d :: ds, vs, ps, r, e => by
    rcases r with _ | ⟨r1, r2⟩
    unfold scalL at e
    split at e
    · rename_i p ps' e1 e2
      cases e
      rw [List.map_cons, ← scalL_ok r2 e2]
      congr 1
      unfold scalP at e1
      split at e1
      · cases e1
        have r1 : RP _ _ _ _ _ := r1
        rw [RP] at r1; exact r1
      · cases e1
        have r1 : RP _ _ _ _ _ := r1
        rw [RP] at r1; exact r1
      · cases e1
        have r1 : RP _ _ _ _ _ := r1
        rw [RP] at r1; exact r1
      · cases e1
    · cases e
/-- what such a class's __init__ does: its fields are set, one behind another -/
def spInit (C : Addr) (n : Nat) (flds : List PyData → List (Str × PyData)) (ok : List PyData → Bool) : Sp := fun vs H Q _ => vs.length = n + 1 ∧ ∃ a ps, vs = .ref a :: ps.map sV ∧ ok ps = true ∧ H a = some (exo a C none) ∧
  ∀ d, H d = none → d ≠ a → Q .non (upd (upd H d (exd d (sVs (flds ps)))) a (exo a C (some d)))
section
variable {X : Cx} {e : Expr} {es : List Expr} {ta : TA} {p pos : Pos}
/-- C(e, ..), its __init__ keeping sp; what is made has no context -/
theorem pmk_oexN {x : Str} {C fI : Addr} {k : Nat} {fd : FuncData} {ps : List Str} {sp : Sp} (T : OexC X.K C) (iC : PySem.W.findIn X.K (.ref C) "__init__" = some (some (.ref fI))) (tI : PySem.W.typeIn X.K (.ref fI) = some (.type "function"))
    (F1 : FnOk X.prog X.w X.K X.mg X.base CX0 k fI fd ps sp) (hr : Room (k + 1) X.A) (hb : Binds X.K fd ps []) (hg : Gl X x) (hm : X.mg x = some (.ref C)) (ha : PA X (e :: es) ta)
    (hdb : (x == ("__debug__" : Str)) = false := by decide) (he : starEach (e :: es) X.env = (false, eval e X.env) :: starEach es X.env := by rfl) (hpl : (backTo pos (starEach es X.env)).any (·.1) = false := by rfl) :
    L2N.PMk X (.Call (.Name x p) (e :: es) [] pos) (tMkO C sp [] ta) := by
  intro pins s σ H Q I hw
  obtain ⟨nm, q, N, bs, bm, sn, sub, ab, col, dd, k0, k1, k2, k3, k5, hC, hbm⟩ := T.cls
  refine wpAny_Call_Name_kw (ld_glob I hg hm ?_ hdb)
  refine PySem.W.callWith_K (h₀ := X.base) I.ok.mod.kin T.kC (thn (ha.run pos pins s σ H _ I hw) fun us s1 hv => ?_) he hpl
  obtain ⟨vs, H1, I1, r1, hz, q1⟩ := hv
  refine ⟨I1.kIn, ?_⟩
  show wpAny _ _ (call (.ref C) us) _ _ _
  obtain ⟨hp, g, dr, tk, os⟩ := s1
  have up : hp.objs.size ≤ hp.objs.size + 1 := Nat.le_succ _
  have want := q1 (hp.objs.size + 1) (I1.hok.fresh up)
  rw [List.append_nil] at want
  have stay : ∀ b o, hp.get? b = some o → ((hp.push (PySem.W.kdv_tup us)).push (PySem.HandSPX.excO C hp.objs.size)).get? b = some o := fun b o e => Heap.get?_push_of_some _ (Heap.get?_push_of_some _ e)
  have here : ((hp.push (PySem.W.kdv_tup us)).push (PySem.HandSPX.excO C hp.objs.size)).get? (hp.objs.size + 1) = some (PySem.HandSPX.excO C hp.objs.size) := by heap_get
  have J2 := I1.laid (t' := tk) (a := hp.objs.size + 1) (o := exo (hp.objs.size + 1) C none) (h' := (hp.push (PySem.W.kdv_tup us)).push (PySem.HandSPX.excO C hp.objs.size)) stay up (exo_ok here)
  have rv : Vals (V.ref (hp.objs.size + 1) :: vs) (Value.ref (hp.objs.size + 1) :: us) := .cons rfl r1
  have len : (Value.ref (hp.objs.size + 1) :: us).length = ps.length := by rw [← F1.len _ _ _ _ want]; exact rv.length.symm
  have size : us.length ≤ sizeLine := by rw [← Paired.length r1, sizeLine_eq]; omega
  have bnd := hb ⟨(hp.push (PySem.W.kdv_tup us)).push (PySem.HandSPX.excO C hp.objs.size), g, dr, tk, os⟩ (Value.ref (hp.objs.size + 1) :: us) J2.kIn (by rw [List.append_nil]; exact len)
  rw [List.append_nil] at bnd
  refine wpAny_call (PySem.HandSPX.call_own F.excBase_ValueError (fun Y => PySem.HandSPX.refsVE_contains Y bm hbm) (I1.kIn _ _ hC) (PySem.W.looks_findIn I1.kIn iC) (fun self => PySem.W.bind_fn I1.kIn self tI) size
    (codeAny_mono (F1.run _ X.stack _ _ ⟨Value.ref (hp.objs.size + 1) :: us, []⟩ (Value.ref (hp.objs.size + 1) :: us) _ _ (fun _ _ _ => False) (hr.make C us []) (J2.env0.make C us []) bnd rv want) fun r s' hq => ?_))
  cases r with
  | error er => exact hq.elim
  | ok fl =>
    cases fl with
    | ret u =>
      obtain ⟨v, H2, os2, bare2, un2, hok2, ru, rfl, d, fs, ea, ed, hd1, q2⟩ := hq
      obtain ⟨h2, g2, d2, t2, os'⟩ := s'
      obtain ⟨t0, G, J, kG, ge, hoe, na⟩ := mk_end0 (d2 := d2) (t2 := t2) I1 up stay un2 hok2 os2 bare2 ea ed hd1
      exact ⟨ru, hp.objs.size + 1, _, _, ⟨G, g2, d2, t2, os'⟩, _, .ref C, some d, rfl, J, kG, ge, hoe, ⟨rfl, rfl, fun w e => by cases e; rfl⟩, rfl, rfl, na, rfl, bare2, raises_own T.exC T.tyC, q2⟩
    | next => exact hq.elim
    | brk => exact hq.elim
    | cont => exact hq.elim
/-- .. as a thing that is raised -/
def mMk (x : Str) (n : Nat) (flds : List PyData → List (Str × PyData)) (ok : List PyData → Bool) (ga : AD) : DL.Env → Sto → Rs Xc := fun ρ S => (ga ρ S).bind fun ds S1 => match scalL ds with
  | some ps => if ds.length = n ∧ ok ps = true ∧ (flds ps).isEmpty = false then .ok ⟨x, flds ps⟩ S1 else .st
  | none => .st
theorem dm_oex {x : Str} {C fI : Addr} {j k n : Nat} {fd : FuncData} {ps : List Str} {flds : List PyData → List (Str × PyData)} {ok : List PyData → Bool} {ga : AD} (T : OexC X.K C) (iC : PySem.W.findIn X.K (.ref C) "__init__" = some (some (.ref fI))) (tI : PySem.W.typeIn X.K (.ref fI) = some (.type "function"))
    (F1 : FnOk X.prog X.w X.K X.mg X.base CX0 k fI fd ps (spInit C n flds ok)) (hr : Room j X.A) (hk : k + 1 ≤ j) (hb : Binds X.K fd ps []) (hn2 : n ≤ 900) (hg : Gl X x) (hm : X.mg x = some (.ref C)) (ha : DA X (fun _ _ _ _ => False) (e :: es) ga)
    (hdb : (x == ("__debug__" : Str)) = false := by decide) (he : starEach (e :: es) X.env = (false, eval e X.env) :: starEach es X.env := by rfl) (hpl : (backTo pos (starEach es X.env)).any (·.1) = false := by rfl) :
    DM X (.Call (.Name x p) (e :: es) [] pos) (mMk x n flds ok ga) := by
  obtain ⟨t, q, i⟩ := ha
  refine ⟨_, pmk_oexN T iC tI F1 (hr.mono hk) hb hg hm q hdb he hpl, fun κ ρ S σ H m Q rl re h => ?_⟩
  refine i κ ρ S σ H m _ rl re ?_
  unfold mMk at h
  cases e1 : ga ρ S with
  | st => simp [e1] at h
  | ex _ _ => simp [e1] at h
  | ok ds S1 =>
    simp only [e1, Rs.bind_ok] at h
    intro vs H1 m1 x1 rl1 r1
    cases e2 : scalL ds with
    | none => simp [e2] at h
    | some qs =>
      simp only [e2] at h
      by_cases hok : ds.length = n ∧ ok qs = true ∧ (flds qs).isEmpty = false
      · rw [if_pos hok] at h
        obtain ⟨hl, hok, hne⟩ := hok
        have ev := scalL_ok r1 e2
        have vl : vs.length = n := by rw [← pairLen r1]; exact hl
        refine ⟨by omega, fun a na => ⟨by simp [vl], a, qs, by rw [List.append_nil, ev], hok, upd_same, fun d hd hda => ⟨rfl, d, sVs (flds qs), upd_same, ?_, ?_, ?_⟩⟩⟩
        · rw [upd_ne hda]; exact upd_same
        · rw [upd_ne hda] at hd; exact hd
        · have hd1 : H1 d = none := by rw [upd_ne hda] at hd; exact hd
          have eH : upd (del (upd (upd (upd H1 a (exo a C none)) d (exd d (sVs (flds qs)))) a (exo a C (some d))) a) d (.xd (sVs (flds qs))) = upd H1 d (.xd (sVs (flds qs))) := by
            funext b
            by_cases b1 : b = d
            · rw [b1, upd_same, upd_same]
            · rw [upd_ne b1, upd_ne b1]
              by_cases b2 : b = a
              · rw [b2, del_same, na]
              · rw [del_ne b2, upd_ne b2, upd_ne b1, upd_ne b2]
          rw [eH]
          exact h _ m1 (.ref C) (some d) (x1.trans (Nx.new rl1 hd1)) (rl1.new hd1) ⟨hm, .inr ⟨d, rfl, (fun z : flds qs = [] => by rw [z] at hne; cases hne), upd_same⟩⟩
      · rw [if_neg hok] at h
        exact h.elim
end
/-! texts cut -/
section
variable {X : Cx} {W : WX} {κ : Addr → Prop} {m : List Addr} {S : Sto} {H : Hp} {o e : Expr} {fo fe : ED} {pos apos : Pos}
theorem RDs_strs : ∀ l : List Str, RDs (KX X κ) m S H (l.map fun s => D.str s) (l.map V.str)
  | [] => .nil
  | _ :: l => .cons RD.str_ (RDs_strs l)
theorem RPs_strs {L : Addr → Prop} : ∀ l : List Str, RPs (KX X κ) H L (l.map PyData.str) (l.map V.str)
  | [] => by rw [List.map_nil, List.map_nil, RPs]
  | x :: l => by
    rw [List.map_cons, List.map_cons, RPs]
    exact ⟨_, _, rfl, by rw [RP], RPs_strs l⟩
def eSplO (fo fe : ED) : ED := fun ρ S => (fo ρ S).bind fun d S1 => match d with
  | .p (.str a) => (fe ρ S1).bind fun x S2 => (match x with
    | .p (.str b) => if (b.length == 0) = false ∧ a.length + 2 ≤ sizeLine then .ok (.ob S2.length) (S2 ++ [.lst ((Txt.split a b).map fun s => D.str s)]) else .st
    | _ => .st)
  | _ => .st
theorem de_splO (ho : DE X W o fo) (he : DE X W e fe) (hs : starEach [e] X.env = [(false, eval e X.env)] := by rfl) (hb : attributeBase o "split" X.env (eval o X.env) = eval o X.env := by rfl) (hl : (apos.endLine == pos.line) = true := by rfl) :
    DE X W (.Call (.Attribute o "split" apos) [e] [] pos) (eSplO fo fe) := by
  obtain ⟨t1, p1, i1⟩ := ho
  obtain ⟨t2, p2, i2⟩ := he
  refine ⟨_, pe_split p1 p2 hs hb hl, fun κ ρ S σ H m Q rl re h => ?_⟩
  refine i1.seq rl re h fun d S1 v H1 m1 x1 rl1 re1 r1 h1 => ?_
  split at h1
  · rename_i a
    refine ⟨⟨a, r1.str⟩, ?_⟩
    refine i2.seq rl1 re1 h1 fun d2 S2 v2 H2 m2 x2 rl2 re2 r2 h2 => ?_
    split at h2
    · rename_i b
      split at h2
      · rename_i hz
        exact ⟨a, b, r1.str, by rw [r2.str], hz.1, hz.2, fun z hz => h2.ok' (.push rl2 hz) (rl2.pushL hz (RDs_strs _)) (RD.push rl2)⟩
      · exact h2.elim
    · exact h2.elim
  · exact h1.elim
end
def cinB (K : PySem.W.Frag) (P0 : Addr) : Bool := match PySem.W.findCls K (.ref P0) (.type "type") "__init__" with
  | some (.val (.builtin n)) => decide (n = "ValueError.__init__")
  | _ => false
theorem cinB_ok {K : PySem.W.Frag} {P0 : Addr} (h : cinB K P0 = true) : PySem.W.findCls K (.ref P0) (.type "type") "__init__" = some (.val (.builtin "ValueError.__init__")) := by
  unfold cinB at h
  split at h
  · rename_i n e
    rw [e, of_decide_eq_true h]
  · cases h
theorem takes_none {X : Cx} : L2N.Takes X (fun _ _ _ _ => False) := fun _ _ z => by
  obtain ⟨_, _, _, _, _, _, _, _, _, _, _, _, _, _, _, _, z⟩ := z
  exact z.elim
/-! a text, none or one time -/
theorem op_mul_s {X : Cx} : OpR X (binaryOp .Mult) (fun x y H Q => ∃ (a : Str) (n : Int), x = .str a ∧ y = .int n ∧ ((n = 0 ∧ Q (.str Str.empty) H) ∨ (n = 1 ∧ Q (.str a) H))) := by
  intro pins s σ H x y v u Q I rx ry h
  obtain ⟨a, n, rfl, rfl, h⟩ := h
  obtain ⟨t, rfl⟩ := rx
  obtain ⟨t', rfl⟩ := ry
  rcases h with ⟨rfl, q⟩ | ⟨rfl, q⟩
  · exact P.mul_str_none (by decide) (by decide) ⟨.str Str.empty, H, I.tok _, ⟨_, rfl⟩, q⟩
  · exact P.mul_str (by decide) (fun _ h2 => by simp at h2) (fun _ h2 => by simp at h2) ⟨.str a, H, I, ⟨_, rfl⟩, q⟩
def gMulS : D → D → Sto → Rs D := fun x y S => match x, y with
  | .p (.str a), .p (.int n) => if n = 0 then .ok (.str Str.empty) S else if n = 1 then .ok (.str a) S else .st
  | _, _ => .st
theorem od_mulS {X : Cx} {W : WX} : OpD X W (binaryOp .Mult) gMulS := by
  refine ⟨_, op_mul_s, fun κ x y vx vy m S H σ Q rl rx ry h => ?_⟩
  unfold gMulS at h
  split at h
  · rename_i a n
    split at h
    · rename_i e
      exact ⟨a, n, rx.str, ry.int, .inl ⟨e, h.ok' .refl rl RD.str_⟩⟩
    · split at h
      · rename_i e
        exact ⟨a, n, rx.str, ry.int, .inr ⟨e, h.ok' .refl rl RD.str_⟩⟩
      · exact h.elim
  · exact h.elim
end DL

namespace DL
open PySem PySem.Spec PyProof.Rows L2
section
variable {X : Cx} {W : WX}
/-! ### repr of scalars; any, all, sum -/
theorem call_reprS : CallR X (.builtin "repr") (fun xs H Q => (xs = [.non] ∧ Q (.str "None") H) ∨ (∃ b : Bool, xs = [.bl b] ∧ Q (.str (if b then "True" else "False")) H) ∨ ∃ i : Int, xs = [.int i] ∧ i.natAbs.log2 < 1920 ∧ Q (.str (toString i)) H) := by
  intro pins s σ H xs us Q I r h
  rcases h with ⟨rfl, q⟩ | ⟨b, rfl, q⟩ | ⟨i, rfl, hz, q⟩
  · obtain ⟨u, rfl, e⟩ := vals1 r
    cases e
    exact PySem.P.repr_of_none ⟨.str _, H, I.tok _, ⟨_, rfl⟩, q⟩
  · obtain ⟨u, rfl, e⟩ := vals1 r
    cases e
    exact PySem.P.repr_of_bool ⟨.str _, H, I.tok _, ⟨_, rfl⟩, q⟩
  · obtain ⟨u, rfl, t, rfl⟩ := vals1 r
    exact PySem.P.repr_of_int hz ⟨.str _, H, I.tok _, ⟨_, rfl⟩, q⟩
def gRepr : FD := fun ds S => match ds with
  | [.p .none] => .ok (.str "None") S
  | [.p (.bool b)] => .ok (.str (if b then "True" else "False")) S
  | [.p (.int i)] => if i.natAbs.log2 < 1920 then .ok (.str (toString i)) S else .st
  | _ => .st
theorem cd_repr : CD X W (.builtin "repr") gRepr := by
  refine ⟨_, call_reprS, fun κ ds vs m S H σ Q rl rd h => ?_⟩
  unfold gRepr at h
  split at h
  · obtain ⟨v, rfl, r⟩ := RDs1 rd
    exact .inl ⟨by rw [r.non], h.ok' .refl rl RD.str_⟩
  · obtain ⟨v, rfl, r⟩ := RDs1 rd
    exact .inr (.inl ⟨_, by rw [r.bl], h.ok' .refl rl RD.str_⟩)
  · split at h
    · rename_i hl
      obtain ⟨v, rfl, r⟩ := RDs1 rd
      exact .inr (.inr ⟨_, by rw [r.int], hl, h.ok' .refl rl RD.str_⟩)
    · exact h.elim
  · exact h.elim
/-- bools of things -/
def bsD : List D → Option (List Bool)
  | [] => some []
  | .p (.bool b) :: l => (bsD l).map (b :: ·)
  | _ :: _ => none
def isD : List D → Option (List Int)
  | [] => some []
  | .p (.int b) :: l => (isD l).map (b :: ·)
  | _ :: _ => none
theorem bsD_ok {κ : Addr → Prop} {m : List Addr} {S : Sto} {H : Hp} : ∀ {ds : List D} {vs : List V} {bs : List Bool}, RDs (KX X κ) m S H ds vs → bsD ds = some bs → vs = bs.map V.bl
  | [], vs, bs, r, e => by cases r; cases e; rfl
  | .p (.bool b) :: l, vs, bs, r, e => by
    simp only [bsD, Option.map_eq_some_iff] at e
    obtain ⟨r', e, rfl⟩ := e
    cases r with
    | cons h1 h2 => rw [RD.bl h1, bsD_ok h2 e]; rfl
  | .p .none :: _, _, _, _, e => by cases e
  | .p (.int _) :: _, _, _, _, e => by cases e
  | .p (.str _) :: _, _, _, _, e => by cases e
  | .p (.list _) :: _, _, _, _, e => by cases e
  | .p (.tuple _) :: _, _, _, _, e => by cases e
  | .p (.dict _) :: _, _, _, _, e => by cases e
  | .ob _ :: _, _, _, _, e => by cases e
  | .scr _ :: _, _, _, _, e => by cases e
  | .xc _ _ _ :: _, _, _, _, e => by cases e
theorem isD_ok {κ : Addr → Prop} {m : List Addr} {S : Sto} {H : Hp} : ∀ {ds : List D} {vs : List V} {bs : List Int}, RDs (KX X κ) m S H ds vs → isD ds = some bs → vs = bs.map V.int
  | [], vs, bs, r, e => by cases r; cases e; rfl
  | .p (.int b) :: l, vs, bs, r, e => by
    simp only [isD, Option.map_eq_some_iff] at e
    obtain ⟨r', e, rfl⟩ := e
    cases r with
    | cons h1 h2 => rw [RD.int h1, isD_ok h2 e]; rfl
  | .p .none :: _, _, _, _, e => by cases e
  | .p (.bool _) :: _, _, _, _, e => by cases e
  | .p (.str _) :: _, _, _, _, e => by cases e
  | .p (.list _) :: _, _, _, _, e => by cases e
  | .p (.tuple _) :: _, _, _, _, e => by cases e
  | .p (.dict _) :: _, _, _, _, e => by cases e
  | .ob _ :: _, _, _, _, e => by cases e
  | .scr _ :: _, _, _, _, e => by cases e
  | .xc _ _ _ :: _, _, _, _, e => by cases e
theorem bsD_map (bs : List Bool) : bsD (bs.map fun b => D.p (.bool b)) = some bs := by
  induction bs with
  | nil => rfl
  | cons b l ih => simp [bsD, ih]
theorem isD_map (bs : List Int) : isD (bs.map fun b => D.p (.int b)) = some bs := by
  induction bs with
  | nil => rfl
  | cons b l ih => simp [isD, ih]
def gBools (f : List Bool → Bool) : FD := fun ds S => match ds with
  | [d] => (match lItems S d with
    | some l => (match bsD l with
      | some bs => .ok (.bl (f bs)) S
      | none => .st)
    | none => .st)
  | _ => .st
def gAny : FD := gBools fun bs => bs.any id
def gAll : FD := gBools fun bs => bs.all id
theorem cd_any (hc : X.calm = true) : CD X W (.builtin "any") gAny := by
  refine ⟨_, cr_any hc, fun κ ds vs m S H σ Q rl rd h => ?_⟩
  unfold gAny gBools at h
  split at h
  · split at h
    · rename_i l el
      split at h
      · rename_i bs eb
        obtain ⟨v, rfl, r⟩ := RDs1 rd
        obtain ⟨a, xs, rfl, h1, h2⟩ := r.items rl el
        rw [bsD_ok h2 eb] at h1
        exact ⟨a, bs, rfl, h1, h.ok' .refl rl RD.bl_⟩
      · exact h.elim
    · exact h.elim
  · exact h.elim
theorem cd_all (hc : X.calm = true) : CD X W (.builtin "all") gAll := by
  refine ⟨_, cr_all hc, fun κ ds vs m S H σ Q rl rd h => ?_⟩
  unfold gAll gBools at h
  split at h
  · split at h
    · rename_i l el
      split at h
      · rename_i bs eb
        obtain ⟨v, rfl, r⟩ := RDs1 rd
        obtain ⟨a, xs, rfl, h1, h2⟩ := r.items rl el
        rw [bsD_ok h2 eb] at h1
        exact ⟨a, bs, rfl, h1, h.ok' .refl rl RD.bl_⟩
      · exact h.elim
    · exact h.elim
  · exact h.elim
def gSum : FD := fun ds S => match ds with
  | [d] => (match lItems S d with
    | some l => (match isD l with
      | some bs => .ok (.int bs.sum) S
      | none => .st)
    | none => .st)
  | _ => .st
theorem cd_sum (hc : X.calm = true) : CD X W (.builtin "sum") gSum := by
  refine ⟨_, cr_sum hc, fun κ ds vs m S H σ Q rl rd h => ?_⟩
  unfold gSum at h
  split at h
  · split at h
    · rename_i l el
      split at h
      · rename_i bs eb
        obtain ⟨v, rfl, r⟩ := RDs1 rd
        obtain ⟨a, xs, rfl, h1, h2⟩ := r.items rl el
        rw [isD_ok h2 eb] at h1
        exact ⟨a, bs, rfl, h1, h.ok' .refl rl RD.int_⟩
      · exact h.elim
    · exact h.elim
  · exact h.elim
end
end DL

/-! what must hold ahead of a word, so that what is wanted holds behind it -/
namespace DL
open PySem PySem.Spec PyProof.Rows L2
def WE {α : Type} (r : Rs α) (Q : α → Sto → Prop) (E : Xc → Sto → Prop) : Prop := match r with
  | .st => False
  | .ok a S => Q a S
  | .ex x S => E x S
structure Wn where
  nx : Env → Sto → Prop
  rt : D → Sto → Prop
  bk : Env → Sto → Prop
  ct : Env → Sto → Prop
  ex : Xc → Env → Sto → Prop
def WS (o : Out) (P : Wn) : Prop := match o with
  | .st => False
  | .nx ρ S => P.nx ρ S
  | .rt d S => P.rt d S
  | .bk ρ S => P.bk ρ S
  | .ct ρ S => P.ct ρ S
  | .ex x ρ S => P.ex x ρ S
section
variable {α β : Type} {ρ : Env} {S S1 : Sto} {Q : α → Sto → Prop} {E : Xc → Sto → Prop} {P : Wn}
theorem WE_ok {a : α} : WE (.ok a S) Q E = Q a S := rfl
theorem WE_st : WE (.st : Rs α) Q E = False := rfl
theorem WE_ex {x : Xc} : WE (.ex x S : Rs α) Q E = E x S := rfl
theorem WE_bind {r : Rs β} {f : β → Sto → Rs α} : WE (Rs.bind r f) Q E = WE r (fun a S => WE (f a S) Q E) E := by cases r <;> rfl
theorem WE_ite {c : Prop} [Decidable c] {r s : Rs α} : WE (if c then r else s) Q E = if c then WE r Q E else WE s Q E := by split <;> rfl
theorem WE_no {r : Rs D} {Q : D → Sto → Prop} : WE (noEx r) Q E = WE r Q (fun _ _ => False) := by cases r <;> rfl
theorem WE_of {r : Rs α} {a : α} (e : r = .ok a S) (q : Q a S) : WE r Q E := by rw [e]; exact q
theorem WE_mono {r : Rs α} {Q' : α → Sto → Prop} {E' : Xc → Sto → Prop} (h : WE r Q' E') (hq : ∀ a S, Q' a S → Q a S) (he : ∀ x S, E' x S → E x S) : WE r Q E := by
  cases r with
  | st => exact h
  | ok a S => exact hq _ _ h
  | ex x S => exact he _ _ h
theorem WE_get {r : Rs D} {Q : D → Sto → Prop} (h : WE r Q (fun _ _ => False)) : ∃ d S, r = .ok d S ∧ Q d S := by
  cases r with
  | st => exact h.elim
  | ok a S => exact ⟨a, S, rfl, h⟩
  | ex x S => exact h.elim
theorem WS_nx : WS (.nx ρ S) P = P.nx ρ S := rfl
theorem WS_rt {d : D} : WS (.rt d S) P = P.rt d S := rfl
theorem WS_bk : WS (.bk ρ S) P = P.bk ρ S := rfl
theorem WS_ct : WS (.ct ρ S) P = P.ct ρ S := rfl
theorem WS_ex {x : Xc} : WS (.ex x ρ S) P = P.ex x ρ S := rfl
theorem WS_lift {r : Rs α} {k : α → Sto → Out} : WS (liftS ρ r k) P = WE r (fun a S => WS (k a S) P) (fun x S => P.ex x ρ S) := by cases r <;> rfl
theorem WS_seq {o : Out} {t : SD} : WS (seqO o t) P = WS o ⟨fun ρ S => WS (t ρ S) P, P.rt, P.bk, P.ct, P.ex⟩ := by cases o <;> rfl
theorem WS_ite {c : Prop} [Decidable c] {r s : Out} : WS (if c then r else s) P = if c then WS r P else WS s P := by split <;> rfl
theorem WS_of {o o' : Out} (e : o = o') (h : WS o' P) : WS o P := e ▸ h
theorem WS_mono {o : Out} {P' : Wn} (h : WS o P') (h1 : ∀ ρ S, P'.nx ρ S → P.nx ρ S) (h2 : ∀ ρ S, P'.rt ρ S → P.rt ρ S) (h3 : ∀ ρ S, P'.bk ρ S → P.bk ρ S) (h4 : ∀ ρ S, P'.ct ρ S → P.ct ρ S) (h5 : ∀ x ρ S, P'.ex x ρ S → P.ex x ρ S) : WS o P := by
  cases o with
  | st => exact h
  | nx ρ S => exact h1 _ _ h
  | rt d S => exact h2 _ _ h
  | bk ρ S => exact h3 _ _ h
  | ct ρ S => exact h4 _ _ h
  | ex x ρ S => exact h5 _ _ _ h
/-- a def -/
theorem WE_gB {N : List Str} {F : SD} {ds : List D} {Q : D → Sto → Prop} (h : WS (F (start0 N ds) S) ⟨fun _ S' => WE (pick S S' .non) Q E, fun d S' => WE (pick S S' d) Q E, fun _ _ => False, fun _ _ => False, fun x _ S' => WE (pickX S S' x) Q E⟩) : WE (gB N F ds S) Q E := by
  unfold gB
  cases e : F (start0 N ds) S with
  | st => rw [e] at h; exact h
  | nx ρ S => rw [e] at h; exact h
  | rt d S => rw [e] at h; exact h
  | bk ρ S => rw [e] at h; exact h.elim
  | ct ρ S => rw [e] at h; exact h.elim
  | ex x ρ S => rw [e] at h; exact h
theorem clS_nil {k : Nat} : ClS k [] := fun _ h => by cases h
theorem clS_set {k n : Nat} {S : Sto} {o : O} (h : ClS k S) (ho : ClO k o) : ClS k (S.set n o) := fun x hx => by
  rcases List.mem_or_eq_of_mem_set hx with h' | rfl
  · exact h x h'
  · exact ho
theorem clS_app {k : Nat} {S T : Sto} (h : ClS k S) (h2 : ClS k T) : ClS k (S ++ T) := fun x hx => by
  rcases List.mem_append.mp hx with h' | h'
  · exact h x h'
  · exact h2 x h'
theorem clS_one {k : Nat} {o : O} (h : ClO k o) : ClS k [o] := fun x hx => by
  rw [List.mem_singleton.mp hx]
  exact h
theorem clS_cons {k : Nat} {o : O} {T : Sto} (h : ClO k o) (h2 : ClS k T) : ClS k (o :: T) := fun x hx => by
  rcases List.mem_cons.mp hx with rfl | h'
  · exact h
  · exact h2 x h'
theorem clO_p {k : Nat} {l : List PyData} : ClO k (.lst (l.map .p)) := fun d hd => by
  obtain ⟨p, _, rfl⟩ := List.mem_map.mp hd
  trivial
theorem clO_nil {k : Nat} : ClO k (.lst []) := fun d hd => by cases hd
theorem clO_fz {k : Nat} {l : List PyData} : ClO k (.fz l) := trivial
theorem clD_mono {k k' : Nat} {d : D} (hk : k ≤ k') (q : ClD k d) : ClD k' d := by
  cases d with
  | ob n => exact Nat.lt_of_lt_of_le q hk
  | _ => trivial
theorem clS_mono {k k' : Nat} {S : Sto} (hk : k ≤ k') (h : ClS k S) : ClS k' S := by
  intro o ho
  have q := h o ho
  cases o with
  | lst l => exact fun d hd => clD_mono hk (q d hd)
  | fz l => trivial
  | dic l => exact fun d hd => clD_mono hk (q d hd)
  | dik l => exact fun d hd => clD_mono hk (q d hd)
  | ins c l => exact fun d hd => clD_mono hk (q d hd)
theorem WE_pick {S2 : Sto} {d : PyData} {Q : D → Sto → Prop} (hl : S2.length = S.length) (hc : ClS 0 S2) (q : Q (.p d) S2) : WE (pick S S2 (.p d)) Q E := by
  unfold pick
  rw [show S2.take S.length = S2 by rw [← hl, List.take_length]]
  rw [if_pos ⟨by omega, clS_mono (Nat.zero_le _) hc, trivial⟩]
  exact q
theorem WE_pickT {S2 T : Sto} {d : PyData} {Q : D → Sto → Prop} (hl : S2.length = S.length) (hc : ClS 0 S2) (q : Q (.p d) S2) : WE (pick S (S2 ++ T) (.p d)) Q E := by
  unfold pick
  rw [take_left' hl]
  rw [if_pos ⟨by rw [List.length_append]; omega, clS_mono (Nat.zero_le _) hc, trivial⟩]
  exact q
/-- the store as it was, with what was added dropped -/
theorem WE_pickD {S2 : Sto} {d : PyData} {Q : D → Sto → Prop} (hl : S.length ≤ S2.length) (hc : ClS 0 (S2.take S.length)) (q : Q (.p d) (S2.take S.length)) : WE (pick S S2 (.p d)) Q E := by
  unfold pick
  rw [if_pos ⟨hl, clS_mono (Nat.zero_le _) hc, trivial⟩]
  exact q
/-- a loop -/
theorem WS_for {g : GD} {body : SD} {chk : Sto → Prop} (I : Nat → Env → Sto → Prop) : ∀ (ds : List D) (k : Nat) (ρ : Env) (S : Sto), I k ρ S →
    (∀ i d ρ S, ds[i]? = some d → I (k + i) ρ S → WE (g d ρ S) (fun ρ1 S1 => WS (body ρ1 S1) ⟨fun ρ S => chk S ∧ I (k + i + 1) ρ S, P.rt, P.nx, fun ρ S => chk S ∧ I (k + i + 1) ρ S, P.ex⟩) (fun _ _ => False)) →
    (∀ ρ S, I (k + ds.length) ρ S → P.nx ρ S) → WS (forL g body chk ds ρ S) P
  | [], k, ρ, S, h0, _, hn => hn ρ S h0
  | d :: ds, k, ρ, S, h0, hs, hn => by
    have q := hs 0 d ρ S rfl h0
    unfold forL
    cases e : g d ρ S with
    | st => rw [e] at q; exact q.elim
    | ex x S1 => rw [e] at q; exact q.elim
    | ok ρ1 S1 =>
      rw [e] at q
      have q : WS (body ρ1 S1) _ := q
      have ih := fun ρ2 S2 h => WS_for (body := body) (chk := chk) (g := g) I ds (k + 1) ρ2 S2 h (fun i d ρ S e h => by
        have := hs (i + 1) d ρ S e (by rw [show k + (i + 1) = k + 1 + i by omega]; exact h)
        rw [show k + (i + 1) = k + 1 + i by omega] at this
        exact this) (fun ρ S h => hn ρ S (by rw [List.length_cons, show k + (ds.length + 1) = k + 1 + ds.length by omega]; exact h))
      dsimp only
      cases e2 : body ρ1 S1 with
      | st => rw [e2] at q; exact q.elim
      | nx ρ2 S2 =>
        rw [e2] at q
        have q : chk S2 ∧ I (k + 0 + 1) ρ2 S2 := q
        simp only [q.1, if_true]
        exact ih ρ2 S2 q.2
      | ct ρ2 S2 =>
        rw [e2] at q
        have q : chk S2 ∧ I (k + 0 + 1) ρ2 S2 := q
        simp only [q.1, if_true]
        exact ih ρ2 S2 q.2
      | bk ρ2 S2 => rw [e2] at q; exact q
      | rt d2 S2 => rw [e2] at q; exact q
      | ex x ρ2 S2 => rw [e2] at q; exact q
/-- a list comprehension -/
theorem WE_lc {g : GD} {c : BD} {f : ED} {chk : Sto → Prop} {ρ0 : Env} {Q : D → Sto → Prop} (I : Nat → List PyData → Sto → Prop) : ∀ (ds : List D) (k : Nat) (acc : List PyData) (S : Sto), I k acc S →
    (∀ i d acc S, ds[i]? = some d → I (k + i) acc S → WE (g d ρ0 S) (fun ρ1 S1 => WE (c ρ1 S1) (fun b S2 => if b = true then WE (f ρ1 S2) (fun y S3 => ∃ p S4, restD y S3 = some (p, S4) ∧ acc.length < sizeLine ∧ chk S4 ∧ I (k + i + 1) (acc ++ [p]) S4) (fun _ _ => False) else chk S2 ∧ I (k + i + 1) acc S2) (fun _ _ => False)) (fun _ _ => False)) →
    (∀ acc S, I (k + ds.length) acc S → Q (.lst acc) S) → WE (okL (lcL g c f chk ρ0 ds acc S)) Q E
  | [], k, acc, S, h0, _, hn => hn acc S h0
  | d :: ds, k, acc, S, h0, hs, hn => by
    have q := hs 0 d acc S rfl h0
    have ih := fun acc2 S2 h => WE_lc (g := g) (c := c) (f := f) (chk := chk) (ρ0 := ρ0) I ds (k + 1) acc2 S2 h (fun i d ρ S e h => by
        have := hs (i + 1) d ρ S e (by rw [show k + (i + 1) = k + 1 + i by omega]; exact h)
        rw [show k + (i + 1) = k + 1 + i by omega] at this
        exact this) (fun ρ S h => hn ρ S (by rw [List.length_cons, show k + (ds.length + 1) = k + 1 + ds.length by omega]; exact h))
    unfold lcL
    cases e : g d ρ0 S with
    | st => rw [e] at q; exact q.elim
    | ex x S1 => rw [e] at q; exact q.elim
    | ok ρ1 S1 =>
      rw [e] at q
      have q : WE (c ρ1 S1) _ _ := q
      dsimp only
      cases e2 : c ρ1 S1 with
      | st => rw [e2] at q; exact q.elim
      | ex x S1 => rw [e2] at q; exact q.elim
      | ok b S2 =>
        rw [e2] at q
        cases b with
        | false =>
          have q : chk S2 ∧ I (k + 0 + 1) acc S2 := q
          simp only [q.1, if_true]
          exact ih acc S2 q.2
        | true =>
          have q : WE (f ρ1 S2) _ _ := q
          dsimp only
          cases e3 : f ρ1 S2 with
          | st => rw [e3] at q; exact q.elim
          | ex x S1 => rw [e3] at q; exact q.elim
          | ok y S3 =>
            rw [e3] at q
            obtain ⟨p, S4, q1, q2, q3, q4⟩ := q
            simp only [q1, q2, q3, and_self, if_true]
            exact ih _ _ q4
theorem WE_true {r : Rs D} (h : WE r (fun d _ => d = .bl true) (fun _ _ => False)) : ∃ S', r = .ok (.bl true) S' := by
  obtain ⟨d, S', e, rfl⟩ := WE_get h
  exact ⟨S', e⟩
/-- an item of a list, at a drawn place -/
theorem atI_in {α : Type} {l : List α} {v : Int} (h0 : 0 ≤ v) (h1 : v < l.length) : ∃ d, atI l v = some d ∧ d ∈ l := by
  obtain ⟨k, rfl⟩ : ∃ k : Nat, v = k := ⟨v.toNat, by omega⟩
  rw [atI_nat']
  have hk : k < l.length := by omega
  exact ⟨l[k], List.getElem?_eq_getElem hk, List.getElem_mem hk⟩
end
end DL
namespace DL
open PySem PySem.Spec PyProof.Rows L2
theorem bYes_ap {ρ : Env} {S : Sto} : bYes ρ S = .ok true S := rfl
theorem start0_eq {N : List Str} {ds : List D} : start0 N ds = ds.map some ++ List.replicate (N.length - ds.length) none := rfl
end DL
namespace DL
open PySem PySem.Spec PyProof.Rows L2
/-- a word in between -/
theorem WS_cut {s t : SD} {ρ : Env} {S : Sto} {P : Wn} (M : Env → Sto → Prop) (h1 : WS (s ρ S) ⟨M, P.rt, P.bk, P.ct, P.ex⟩) (h2 : ∀ ρ S, M ρ S → WS (t ρ S) P) : WS (sSeq s t ρ S) P := by
  rw [sSeq_ap, WS_seq]
  exact WS_mono h1 h2 (fun _ _ h => h) (fun _ _ h => h) (fun _ _ h => h) (fun _ _ _ h => h)
theorem clO_app {k : Nat} {l : List D} {d : D} (h : ClO k (.lst l)) (hd : ClD k d) : ClO k (.lst (l ++ [d])) := fun x hx => by
  rcases List.mem_append.mp hx with z | z
  · exact h x z
  · rw [List.mem_singleton.mp z]; exact hd
end DL
namespace DL
open PySem PySem.Spec PyProof.Rows L2
theorem gIsN_ap {neg : Bool} {a : PyData} {S : Sto} : gIsN neg (.p a) (.p .none) S = .ok (.bl (neg ^^ isNoneD a)) S := rfl
theorem isNoneD_int {i : Int} : isNoneD (.int i) = false := rfl
theorem isNoneD_none : isNoneD .none = true := rfl
end DL
namespace DL
open PySem PySem.Spec PyProof.Rows L2
/-- a def that hands plain data back: what is known of it and of the store at the end -/
theorem WE_def {N : List Str} {F : SD} {ds : List D} {S : Sto} {Q : D → Sto → Prop} {E : Xc → Sto → Prop} (R : D → Sto → Prop)
    (h : WS (F (start0 N ds) S) ⟨fun _ S' => R .non S', R, fun _ _ => False, fun _ _ => False, fun _ _ _ => False⟩)
    (hR : ∀ d S', R d S' → ∃ p S2 T, d = .p p ∧ S' = S2 ++ T ∧ S2.length = S.length ∧ ClS 0 S2 ∧ Q (.p p) S2) : WE (gB N F ds S) Q E := by
  refine WE_gB (WS_mono h (fun _ S' r => ?_) (fun d S' r => ?_) (fun _ _ z => z.elim) (fun _ _ z => z.elim) (fun _ _ _ z => z.elim))
  · obtain ⟨p, S2, T, e, rfl, h1, h2, q⟩ := hR _ _ r
    show WE (pick S (S2 ++ T) .non) Q E
    rw [e]
    exact WE_pickT h1 h2 q
  · obtain ⟨p, S2, T, rfl, rfl, h1, h2, q⟩ := hR _ _ r
    exact WE_pickT h1 h2 q
end DL
namespace DL
open PySem PySem.Spec PyProof.Rows L2
def andR (x : D) (r : Rs D) (S : Sto) : Rs D := match x with
  | .p (.bool b) => if b = true then r else .ok (.bl false) S
  | _ => .st
def orR (x : D) (r : Rs D) (S : Sto) : Rs D := match x with
  | .p (.bool b) => if b = true then .ok (.bl true) S else r
  | _ => .st
def notR (x : D) (S : Sto) : Rs D := match x with
  | .p (.bool b) => .ok (.bl (!b)) S
  | _ => .st
theorem eAnd_wp {f g : ED} {ρ : Env} {S : Sto} : eAnd f g ρ S = (f ρ S).bind fun x S1 => andR x (g ρ S1) S1 := by
  unfold eAnd
  congr 1
  funext x S1
  cases x with
  | p d => cases d with
    | bool b => cases b <;> rfl
    | _ => rfl
  | ob _ => rfl
  | scr _ => rfl
  | xc _ _ _ => rfl
theorem eOr_wp {f g : ED} {ρ : Env} {S : Sto} : eOr f g ρ S = (f ρ S).bind fun x S1 => orR x (g ρ S1) S1 := by
  unfold eOr
  congr 1
  funext x S1
  cases x with
  | p d => cases d with
    | bool b => cases b <;> rfl
    | _ => rfl
  | ob _ => rfl
  | scr _ => rfl
  | xc _ _ _ => rfl
theorem eNot_wp {f : ED} {ρ : Env} {S : Sto} : eNot f ρ S = (f ρ S).bind fun x S1 => notR x S1 := by
  unfold eNot
  congr 1
theorem andR_bl {b : Bool} {r : Rs D} {S : Sto} : andR (.p (.bool b)) r S = if b = true then r else .ok (.bl false) S := rfl
theorem orR_bl {b : Bool} {r : Rs D} {S : Sto} : orR (.p (.bool b)) r S = if b = true then .ok (.bl true) S else r := rfl
theorem notR_bl {b : Bool} {S : Sto} : notR (.p (.bool b)) S = .ok (.bl (!b)) S := rfl
theorem gAny_lst {bs : List Bool} {S : Sto} : gAny [.p (.list (bs.map .bool))] S = .ok (.bl (bs.any id)) S := by
  unfold gAny gBools
  have e : lItems S (.p (.list (bs.map .bool))) = some (bs.map fun b => D.p (.bool b)) := by
    show some ((bs.map PyData.bool).map D.p) = _
    rw [List.map_map]; rfl
  simp only [e, bsD_map]
theorem gAll_lst {bs : List Bool} {S : Sto} : gAll [.p (.list (bs.map .bool))] S = .ok (.bl (bs.all id)) S := by
  unfold gAll gBools
  have e : lItems S (.p (.list (bs.map .bool))) = some (bs.map fun b => D.p (.bool b)) := by
    show some ((bs.map PyData.bool).map D.p) = _
    rw [List.map_map]; rfl
  simp only [e, bsD_map]
theorem gSum_lst {bs : List Int} {S : Sto} : gSum [.p (.list (bs.map .int))] S = .ok (.int bs.sum) S := by
  unfold gSum
  have e : lItems S (.p (.list (bs.map .int))) = some (bs.map fun b => D.p (.int b)) := by
    show some ((bs.map PyData.int).map D.p) = _
    rw [List.map_map]; rfl
  simp only [e, isD_map]
theorem chkOf_p {d : PyData} {l : List D} {S : Sto} : chkOf (.p d) l S = True := rfl
theorem lItems_lst {l : List PyData} {S : Sto} : lItems S (.p (.list l)) = some (l.map .p) := rfl
end DL

namespace DL
open PySem PySem.Spec PyProof.Rows L2
section
variable {X : Cx} {W : WX}
/-! ### in a tuple of data -/
def rInTp (neg : Bool) (K : PySem.W.Frag) : R2 := fun v w H Q => ∃ d l, Dp K H v d ∧ Dp K H w (.tuple l) ∧ (SeqAt.shaped d = true ∧ SeqAt.shaped (.tuple l) = true) ∧ Q (.bl (neg ^^ l.any fun z => PyData.eqv z d)) H
theorem op_inTp (room : X.A.units + 65 < cLine) : OpR X (compareOp .In) (rInTp false X.K) := by
  intro pins s σ H v w pv pw Q I rv rw' ⟨d, l, dv, dl, ⟨sd, sl⟩, q⟩
  obtain ⟨_, r1⟩ := Dp.reads I d v pv dv rv
  obtain ⟨_, r2⟩ := Dp.reads I _ w pw dl rw'
  refine SeqAt.in_tuple_reads r2 r1 (SeqAt.canLay_of_shaped sl) (SeqAt.canLay_of_shaped sd) (room_in_shaped sd room) ⟨.bl _, H, I, rfl, ?_⟩
  simpa using q
theorem op_notInTp (room : X.A.units + 65 < cLine) : OpR X (compareOp .NotIn) (rInTp true X.K) := by
  intro pins s σ H v w pv pw Q I rv rw' ⟨d, l, dv, dl, ⟨sd, sl⟩, q⟩
  obtain ⟨_, r1⟩ := Dp.reads I d v pv dv rv
  obtain ⟨_, r2⟩ := Dp.reads I _ w pw dl rw'
  refine SeqAt.notIn_tuple_reads r2 r1 (SeqAt.canLay_of_shaped sl) (SeqAt.canLay_of_shaped sd) (room_in_shaped sd room) ⟨.bl _, H, I, rfl, ?_⟩
  simpa using q
def gInT (neg : Bool) : D → D → Sto → Rs D := fun x y S => match y with
  | .p (.tuple l) => (match pNow S x with
    | some d => if SeqAt.shaped d = true ∧ SeqAt.shaped (.tuple l) = true then .ok (.bl (neg ^^ l.any fun z => PyData.eqv z d)) S else .st
    | none => .st)
  | y => gIn neg x y S
theorem od_inT (hu : X.A.units + 65 < cLine) : OpD X W (compareOp .In) (gInT false) := by
  obtain ⟨r, hr, h0⟩ := od_in (X := X) (W := W) hu
  refine ⟨_, OpR.or hr (op_inTp hu), fun κ x y vx vy m S H σ Q rl rx ry h => ?_⟩
  unfold gInT at h
  split at h
  · split at h
    · split at h
      · rename_i e hs
        exact .inr ⟨_, _, rx.now rl e, RP.dp _ _ ry, hs, h.ok' .refl rl RD.bl_⟩
      · exact h.elim
    · exact h.elim
  · exact .inl (h0 κ x y vx vy m S H σ Q rl rx ry h)
theorem od_notinT (hu : X.A.units + 65 < cLine) : OpD X W (compareOp .NotIn) (gInT true) := by
  obtain ⟨r, hr, h0⟩ := od_notin (X := X) (W := W) hu
  refine ⟨_, OpR.or hr (op_notInTp hu), fun κ x y vx vy m S H σ Q rl rx ry h => ?_⟩
  unfold gInT at h
  split at h
  · split at h
    · split at h
      · rename_i e hs
        exact .inr ⟨_, _, rx.now rl e, RP.dp _ _ ry, hs, h.ok' .refl rl RD.bl_⟩
      · exact h.elim
    · exact h.elim
  · exact .inl (h0 κ x y vx vy m S H σ Q rl rx ry h)
theorem gInT_tup {neg : Bool} {d : PyData} {l : List PyData} {S : Sto} (hd : SeqAt.shaped d = true) (hl : SeqAt.shaped (.tuple l) = true) : gInT neg (.p d) (.p (.tuple l)) S = .ok (.bl (neg ^^ l.any fun z => PyData.eqv z d)) S := by
  show (if _ then _ else _) = _
  rw [if_pos ⟨hd, hl⟩]
end
end DL
namespace DL
open PySem PySem.Spec PyProof.Rows L2
section
variable {X : Cx} {W : WX}
/-- two lists in one that will change -/
def gAddO : D → D → Sto → Rs D := fun x y S => match vList S x, vList S y with
  | some a, some b => if a.length + b.length ≤ sizeLine then .ok (.ob S.length) (S ++ [.lst ((a ++ b).map .p)]) else .st
  | _, _ => .st
theorem od_addO : OpD X W (binaryOp .Add) gAddO := by
  refine ⟨_, op_cat, fun κ x y vx vy m S H σ Q rl rx ry h => ?_⟩
  unfold gAddO at h
  split at h
  · rename_i a b ea eb
    split at h
    · rename_i hl
      obtain ⟨p, xs, rfl, hx, rx⟩ := rx.vlist rl ea
      obtain ⟨q, ys, rfl, hy, ry⟩ := ry.vlist rl eb
      exact ⟨p, q, xs, ys, rfl, rfl, hx, hy, by rw [← RPs_len rx, ← RPs_len ry]; exact hl, fun z hz => h.ok' (.push rl hz) (rl.pushL hz (RDs_p.mpr (RPs_app rx ry))) (RD.push rl)⟩
    · exact h.elim
  · exact h.elim
end
end DL

/-! dicts whose keys are tuples of ints and texts; tuples of any depth compared -/
namespace DL
open PySem PySem.Spec PyProof.Rows L2
def keyP : PyData → Option Key
  | .int i => some (.inl i)
  | .str x => some (.inr x)
  | _ => none
def keyL : List PyData → Option (List Key)
  | [] => some []
  | d :: l => match keyP d, keyL l with
    | some k, some ks => some (k :: ks)
    | _, _ => none
def keyD : D → Option (List Key)
  | .p (.tuple l) => keyL l
  | _ => none
def valD (kvs : List (List Key × D)) (k : List Key) : Option D := (kvs.find? fun kv => decide (kv.1 = k)).map (·.2)
def setD (kvs : List (List Key × D)) (k : List Key) (v : D) : List (List Key × D) :=
  if (kvs.any fun kv => decide (kv.1 = k)) = true then kvs.map (fun kv => if kv.1 = k then (kv.1, v) else kv) else kvs ++ [(k, v)]
section
variable {X : Cx} {W : WX} {m m1 : List Addr} {S S1 : Sto} {H H1 : Hp} {σ : St} {κ : Addr → Prop}
theorem keyL_ok {L : Addr → Prop} : ∀ {l : List PyData} {vs : List V} {k : List Key}, RPs (KX X κ) H L l vs → keyL l = some k → vs = k.map kV
  | [], vs, k, r, e => by
    rw [RPs] at r
    subst r
    cases e
    rfl
  | d :: l, vs, k, r, e => by
    rw [RPs] at r
    obtain ⟨v, r', rfl, h1, h2⟩ := r
    unfold keyL at e
    split at e
    · rename_i a b ea eb
      cases e
      rw [List.map_cons, ← keyL_ok h2 eb]
      congr 1
      unfold keyP at ea
      split at ea
      · cases ea
        rw [RP] at h1
        exact h1
      · cases ea
        rw [RP] at h1
        exact h1
      · cases ea
    · cases e
theorem RD.key {y : D} {v : V} {k : List Key} (h : RD (KX X κ) m S H y v) (e : keyD y = some k) : ∃ b, v = .ref b ∧ H b = some (.tup (k.map kV)) := by
  unfold keyD at e
  split at e
  · obtain ⟨b, vs, rfl, h1, h2⟩ := h.tup'
    rw [keyL_ok h2 e] at h1
    exact ⟨b, rfl, h1⟩
  · cases e
theorem val_pair {kvs : List (List Key × D)} {ws : List (List Key × V)} (r : RKV (KX X κ) m S H kvs ws) (k : List Key) :
    (valD kvs k = none ∧ valV ws k = none) ∨ ∃ d v, valD kvs k = some d ∧ valV ws k = some v ∧ RD (KX X κ) m S H d v := by
  induction r with
  | nil => exact .inl ⟨rfl, rfl⟩
  | @cons p q l l' h _ ih =>
    by_cases e : p.1 = k
    · have e2 : q.1 = k := h.1.symm.trans e
      exact .inr ⟨p.2, q.2, by simp [valD, List.find?_cons, e], valV_pos e2, h.2⟩
    · have e2 : ¬ q.1 = k := fun z => e (h.1.trans z)
      rw [valV_neg e2]
      have : valD (p :: l) k = valD l k := by simp [valD, List.find?_cons, e]
      rw [this]
      exact ih
theorem any_pair {kvs : List (List Key × D)} {ws : List (List Key × V)} (r : RKV (KX X κ) m S H kvs ws) (k : List Key) : (kvs.any fun kv => decide (kv.1 = k)) = (ws.any fun kv => decide (kv.1 = k)) := by
  induction r with
  | nil => rfl
  | @cons p q l l' h _ ih => rw [List.any_cons, List.any_cons, ih, h.1]
theorem map_pair {kvs : List (List Key × D)} {ws : List (List Key × V)} (r : RKV (KX X κ) m S H kvs ws) (k : List Key) {d : D} {v : V} (rd : RD (KX X κ) m S H d v) :
    RKV (KX X κ) m S H (kvs.map (fun kv => if kv.1 = k then (kv.1, d) else kv)) (ws.map (fun kv => if kv.1 = k then (kv.1, v) else kv)) := by
  induction r with
  | nil => exact .nil
  | @cons p q l l' h _ ih =>
    refine .cons ?_ ih
    show (if p.1 = k then (p.1, d) else p).1 = (if q.1 = k then (q.1, v) else q).1 ∧ RD (KX X κ) m S H (if p.1 = k then (p.1, d) else p).2 (if q.1 = k then (q.1, v) else q).2
    by_cases e : p.1 = k
    · have e2 : q.1 = k := h.1.symm.trans e
      rw [if_pos e, if_pos e2]
      exact ⟨h.1, rd⟩
    · have e2 : ¬ q.1 = k := fun z => e (h.1.trans z)
      rw [if_neg e, if_neg e2]
      exact h
theorem set_pair {kvs : List (List Key × D)} {ws : List (List Key × V)} (r : RKV (KX X κ) m S H kvs ws) (k : List Key) {d : D} {v : V} (rd : RD (KX X κ) m S H d v) : RKV (KX X κ) m S H (setD kvs k d) (putK ws k v) := by
  unfold setD putK
  rw [any_pair r k]
  split
  · exact map_pair r k rd
  · exact pairApp r (.cons ⟨rfl, rd⟩ .nil)
/-! ### {} -/
def eDNew : ED := fun _ S => .ok (.ob S.length) (S ++ [.dic []])
theorem de_dnew {pos : Pos} : DE X W (.Dict [] [] pos) eDNew :=
  ⟨_, pe_dnewT, fun κ ρ S σ H m Q rl re h p hp => h.ok' (.push rl hp) (rl.push hp ⟨[], upd_same, .nil⟩) (RD.push rl)⟩
def dicO (S : Sto) : D → Option (List (List Key × D))
  | .ob n => match S[n]? with
    | some (.dic kvs) => some kvs
    | _ => none
  | _ => none
theorem RD.dic {d : D} {v : V} {kvs : List (List Key × D)} (r : Rl (KX X κ) m S H) (h : RD (KX X κ) m S H d v) (e : dicO S d = some kvs) : ∃ n a ws, d = .ob n ∧ m[n]? = some a ∧ S[n]? = some (.dic kvs) ∧ v = .ref a ∧ H a = some (.dT ws) ∧ RKV (KX X κ) m S H kvs ws := by
  unfold dicO at e
  split at e
  · rename_i n
    split at e
    · rename_i q
      cases e
      obtain ⟨a, em, rfl⟩ := h
      obtain ⟨ws, h1, h2⟩ := r.obj n a _ em q
      exact ⟨n, a, ws, rfl, em, q, rfl, h1, h2⟩
    · cases e
  · cases e
/-- d[k] -/
def gDIx : D → D → Sto → Rs D := fun x y S => match dicO S x, keyD y with
  | some kvs, some k => (match valD kvs k with
    | some d => .ok d S
    | none => .st)
  | _, _ => .st
theorem de_dix {a b : Expr} {pos : Pos} {fa fb : ED} (hu : X.A.units + 65 < cLine) (ha : DE X W a fa) (hb : DE X W b fb) (hs : NoSl b) : DE X W (.Subscript a b pos) (eBin gDIx fa fb) := by
  obtain ⟨ta, pa, ia⟩ := ha
  obtain ⟨tb, pb, ib⟩ := hb
  refine ⟨_, pe_dget (by omega) pa pb hs, fun κ ρ S σ H m Q rl re h => ?_⟩
  refine ia.seq rl re h fun x S1 vx H1 m1 x1 rl1 re1 r1 h1 => ?_
  refine ib.seq rl1 re1 h1 fun y S2 vy H2 m2 x2 rl2 re2 r2 h2 => ?_
  have r1 := r1.nx x2
  unfold gDIx at h2
  split at h2
  · rename_i kvs k e1 e2
    split at h2
    · rename_i d e3
      obtain ⟨n, p, ws, rfl, _, _, rfl, h3, h4⟩ := r1.dic rl2 e1
      obtain ⟨b, rfl, hb⟩ := r2.key e2
      rcases val_pair h4 k with ⟨z, _⟩ | ⟨d', v, z1, z2, z3⟩
      · rw [e3] at z; cases z
      · rw [e3] at z1
        cases z1
        have g := DGet.t (k := k) h3 hb
        rw [z2] at g
        exact ⟨p, v, rfl, g, h2.ok' .refl rl2 z3⟩
    · exact h2.elim
  · exact h2.elim
/-- k in d -/
theorem op_inDc (hu : X.A.units + 1 < cLine) : OpR X (compareOp .In) (fun x y H Q => ∃ a o, y = .ref a ∧ DGet H a x o ∧ Q (.bl o.isSome) H) := by
  intro pins s σ H x y v u Q I rx ry ⟨a, o, e, g, q⟩
  subst e
  obtain rfl : u = Value.ref a := ry
  exact d_in hu I g rx fun s1 I1 => ⟨.bl _, H, I1, rfl, q⟩
theorem op_notInDc (hu : X.A.units + 1 < cLine) : OpR X (compareOp .NotIn) (fun x y H Q => ∃ a o, y = .ref a ∧ DGet H a x o ∧ Q (.bl (!o.isSome)) H) := by
  intro pins s σ H x y v u Q I rx ry ⟨a, o, e, g, q⟩
  subst e
  obtain rfl : u = Value.ref a := ry
  exact d_notIn hu I g rx fun s1 I1 => ⟨.bl _, H, I1, rfl, q⟩
def gInA (neg : Bool) : D → D → Sto → Rs D := fun x y S => match dicO S y with
  | some kvs => (match keyD x with
    | some k => .ok (.bl (neg ^^ (valD kvs k).isSome)) S
    | none => .st)
  | none => gInT neg x y S
theorem get_dic {x y : D} {vx vy : V} {kvs : List (List Key × D)} {k : List Key} (rl : Rl (KX X κ) m S H) (rx : RD (KX X κ) m S H x vx) (ry : RD (KX X κ) m S H y vy) (e1 : dicO S y = some kvs) (e2 : keyD x = some k) :
    ∃ a o, vy = .ref a ∧ DGet H a vx o ∧ o.isSome = (valD kvs k).isSome := by
  obtain ⟨n, p, ws, rfl, _, _, rfl, h3, h4⟩ := ry.dic rl e1
  obtain ⟨b, rfl, hb⟩ := rx.key e2
  refine ⟨p, _, rfl, DGet.t (k := k) h3 hb, ?_⟩
  rcases val_pair h4 k with ⟨z1, z2⟩ | ⟨d', v, z1, z2, z3⟩
  · rw [z1, z2]; rfl
  · rw [z1, z2]; rfl
theorem od_inA (hu : X.A.units + 65 < cLine) : OpD X W (compareOp .In) (gInA false) := by
  obtain ⟨r, hr, h0⟩ := od_inT (X := X) (W := W) hu
  refine ⟨_, OpR.or hr (op_inDc (by omega)), fun κ x y vx vy m S H σ Q rl rx ry h => ?_⟩
  unfold gInA at h
  split at h
  · rename_i kvs e1
    split at h
    · rename_i k e2
      obtain ⟨a, o, rfl, g, e3⟩ := get_dic rl rx ry e1 e2
      refine .inr ⟨a, o, rfl, g, ?_⟩
      rw [e3]
      exact h.ok' .refl rl (by rw [Bool.false_xor]; exact RD.bl_)
    · exact h.elim
  · exact .inl (h0 κ x y vx vy m S H σ Q rl rx ry h)
theorem od_notinA (hu : X.A.units + 65 < cLine) : OpD X W (compareOp .NotIn) (gInA true) := by
  obtain ⟨r, hr, h0⟩ := od_notinT (X := X) (W := W) hu
  refine ⟨_, OpR.or hr (op_notInDc (by omega)), fun κ x y vx vy m S H σ Q rl rx ry h => ?_⟩
  unfold gInA at h
  split at h
  · rename_i kvs e1
    split at h
    · rename_i k e2
      obtain ⟨a, o, rfl, g, e3⟩ := get_dic rl rx ry e1 e2
      refine .inr ⟨a, o, rfl, g, ?_⟩
      rw [e3]
      exact h.ok' .refl rl (by rw [Bool.true_xor]; exact RD.bl_)
    · exact h.elim
  · exact .inl (h0 κ x y vx vy m S H σ Q rl rx ry h)
/-- d[k] = v: what is stored comes to rest -/
def putD (o i v : D) (S : Sto) : Option Sto := match o with
  | .ob n => (match restD v S with
    | some (p, S1) => (match S1[n]?, keyD i with
      | some (.dic kvs), some k => if kvs.length < sizeLine then some (S1.set n (.dic (setD kvs k (.p p)))) else none
      | _, _ => none)
    | none => none)
  | _ => none
def nxO (ρ : Env) (o : Option Sto) : Out := match o with
  | some S => .nx ρ S
  | none => .st
def sDPt (fo fi fv : ED) : SD := fun ρ S => liftS ρ (fv ρ S) fun v S1 => liftS ρ (fo ρ S1) fun o S2 => liftS ρ (fi ρ S2) fun i S3 => nxO ρ (putD o i v S3)
theorem ds_dput {o i value : Expr} {pos pos' : Pos} {fo fi fv : ED} (hu : X.A.units + 65 < cLine) (ho : DE X W o fo) (hi : DE X W i fi) (hv : DE X W value fv) (hs : swapsWith value (some (.Subscript o i pos')) pos.line X.env = pure false := by rfl) :
    DS X W (.Assign [.Subscript o i pos'] value pos) (sDPt fo fi fv) := by
  obtain ⟨t1, p1, i1⟩ := ho
  obtain ⟨t2, p2, i2⟩ := hi
  obtain ⟨t3, p3, i3⟩ := hv
  refine ⟨_, ps_dput (by omega) p1 p2 p3 hs, fun κ ρ S σ H m Dn rl re h => ?_⟩
  refine i3.seqS rl re h fun v S1 vv H1 m1 x1 rl1 re1 r1 h1 => ?_
  refine i1.seqS rl1 re1 h1 fun o' S2 vo H2 m2 x2 rl2 re2 r2 h2 => ?_
  refine i2.seqS rl2 re2 h2 fun i' S3 vi H3 m3 x3 rl3 re3 r3 h3 => ?_
  have q1 := (r1.nx x2).nx x3
  have q2 := r2.nx x3
  unfold putD at h3
  split at h3
  · rename_i n
    split at h3
    · rename_i p S4 e4
      obtain ⟨rl4, x4, r4⟩ := q1.restD rl3 e4
      have q2' := q2.nx x4
      have q3' := r3.nx x4
      split at h3
      · rename_i kvs k e5 e6
        split at h3
        · rename_i hl
          obtain ⟨n', a, ws, en, em, es, rfl, h5, h6⟩ := q2'.dic rl4 (show dicO S4 (.ob n) = some kvs by simp only [dicO, e5])
          cases en
          obtain ⟨b, rfl, hb⟩ := q3'.key e6
          have q := set_pair h6 k r4
          refine ⟨a, _, rfl, DPut.t (k := k) h5 hb (by rw [← pairLen h6]; exact hl), ?_⟩
          exact h3 σ _ m3 (x4.trans (Nx.put rl4 em es rfl)) (rl4.putT em es q) (RE.nx (Nx.put rl4 em es rfl) (re3.nx x4))
        · exact h3.elim
      · exact h3.elim
    · exact h3.elim
  · exact h3.elim
/-! ### a < b of data -/
def rLtD (K : PySem.W.Frag) : R2 := fun v w H Q => ∃ d e, Dp K H v d ∧ Dp K H w e ∧ PySem.W.alike d e = true ∧ d ≠ .none ∧ d.depth ≤ 64 ∧ Q (.bl (PySem.W.dataLt d e)) H
theorem op_ltD (room : X.A.units + 65 < cLine) : OpR X (compareOp .Lt) (rLtD X.K) := by
  intro pins s σ H v w pv pw Q I rv rw' ⟨d, e, dv, de, ha, hn, hd, q⟩
  obtain ⟨as, r1⟩ := Dp.reads I d v pv dv rv
  obtain ⟨bs, r2⟩ := Dp.reads I e w pw de rw'
  have k := PySem.W.rcLt_alike d e X.A s pv pw as bs r1 r2 ha hn (by omega)
  exact k _ _ _ _ ⟨.bl _, H, I, rfl, q⟩
end
end DL
namespace DL
open PySem PySem.Spec PyProof.Rows L2
section
variable {X : Cx} {W : WX}
def gLtA : D → D → Sto → Rs D := fun x y S => match x, y with
  | .p (.tuple a), .p (.tuple b) => if PySem.W.alike (.tuple a) (.tuple b) = true ∧ (PyData.tuple a).depth ≤ 64 then .ok (.bl (PySem.W.dataLt (.tuple a) (.tuple b))) S else .st
  | x, y => gLt x y S
theorem od_ltA (hu : X.A.units + 65 < cLine) : OpD X W (compareOp .Lt) gLtA := by
  obtain ⟨r, hr, h0⟩ := od_lt (X := X) (W := W)
  refine ⟨_, OpR.or hr (op_ltD hu), fun κ x y vx vy m S H σ Q rl rx ry h => ?_⟩
  unfold gLtA at h
  split at h
  · split at h
    · rename_i hs
      exact .inr ⟨_, _, RP.dp _ _ rx, RP.dp _ _ ry, hs.1, (fun z => by cases z), hs.2, h.ok' .refl rl RD.bl_⟩
    · exact h.elim
  · exact .inl (h0 κ x y vx vy m S H σ Q rl rx ry h)
theorem gInA_of {neg : Bool} {x y : D} {S : Sto} (h : dicO S y = none) : gInA neg x y S = gInT neg x y S := by
  unfold gInA
  rw [h]
theorem dicO_p {d : PyData} {S : Sto} : dicO S (.p d) = none := rfl
end
end DL

/-! list comprehensions whose list will change -/
namespace DL
open PySem PySem.Spec PyProof.Rows L2
def okLO (r : Option (List PyData × Sto)) : Rs D := match r with
  | some (l, S) => .ok (.ob S.length) (S ++ [.lst (l.map .p)])
  | none => .st
noncomputable def eLcO (i : Env → Sto → Rs IDt) (g : GD) (c : BD) (f : ED) (vs : List Nat) : ED := fun ρ S => (i ρ S).bind fun d S1 => okLO (lcL g c f d.2 (wipeE ρ vs) d.1 [] S1)
section
variable {X : Cx} {W : WX} {m m1 m2 : List Addr} {S S1 S2 : Sto} {H H1 H2 : Hp} {κ : Addr → Prop} {L : Addr} {o : O}
theorem lv_shown {a : Addr} (hlen : m2.length = S2.length) (h : lv (KX X κ) (m2 ++ [L]) (S2 ++ [o]) a) : lv ⟨X.K, fun a => κ a ∨ a = L, X.mg⟩ m2 S2 a := by
  rcases h with h | ⟨k, x, e1, e2, e3⟩
  · exact .inl (.inl h)
  · by_cases hk : k < m2.length
    · rw [List.getElem?_append_left hk] at e1
      rw [List.getElem?_append_left (by rw [← hlen]; exact hk)] at e2
      exact .inr ⟨k, x, e1, e2, e3⟩
    · rw [List.getElem?_append_right (Nat.le_of_not_lt hk)] at e1
      have : k - m2.length = 0 := by
        have := (List.getElem?_eq_some_iff.mp e1).1
        simp at this
        omega
      rw [this] at e1
      exact .inl (.inr (Option.some.inj e1).symm)
theorem RP.shown (hlen : m2.length = S2.length) {d : PyData} {v : V} (h : RP ⟨X.K, fun a => κ a ∨ a = L, X.mg⟩ H2 (lv ⟨X.K, fun a => κ a ∨ a = L, X.mg⟩ m2 S2) d v) : RP (KX X κ) H2 (lv (KX X κ) (m2 ++ [L]) (S2 ++ [o])) d v :=
  RP.kk (K := ⟨X.K, fun a => κ a ∨ a = L, X.mg⟩) (K' := KX X κ) (L := lv (KX X κ) (m2 ++ [L]) (S2 ++ [o])) rfl _ _ (RP.mono (K := ⟨X.K, fun a => κ a ∨ a = L, X.mg⟩) (fun _ _ q => q) (fun _ _ e nl => ⟨e, fun z => nl (lv_shown hlen z)⟩) d v h)
theorem RD.shown (hlen : m2.length = S2.length) {d : D} {v : V} (h : RD ⟨X.K, fun a => κ a ∨ a = L, X.mg⟩ m2 S2 H2 d v) : RD (KX X κ) (m2 ++ [L]) (S2 ++ [o]) H2 d v := by
  cases d with
  | p d => exact RP.shown hlen h
  | ob n =>
    obtain ⟨a, e, rfl⟩ := h
    exact ⟨a, by rw [List.getElem?_append_left (List.getElem?_eq_some_iff.mp e).1]; exact e, rfl⟩
  | scr ns => exact h
  | xc a dd fs => exact h
theorem Rl.shown {acc : List PyData} {ws : List V} (r : Rl ⟨X.K, fun a => κ a ∨ a = L, X.mg⟩ m2 S2 H2) (hn : ¬ κ L) (eL : H2 L = some (.lst ws)) (ra : RPs ⟨X.K, fun a => κ a ∨ a = L, X.mg⟩ H2 (lv ⟨X.K, fun a => κ a ∨ a = L, X.mg⟩ m2 S2) acc ws) :
    Rl (KX X κ) (m2 ++ [L]) (S2 ++ [.lst (acc.map .p)]) H2 := by
  have hl := r.len
  refine ⟨by simp [hl], ?_, fun a h => ⟨fun z => ?_, (r.hid a (.inl h)).2⟩, fun k b x ek ex => ?_⟩
  · rw [List.nodup_append]
    refine ⟨r.nd, by simp, fun x hx y hy => ?_⟩
    have : y = L := by simpa using hy
    subst this
    rintro rfl
    exact (r.hid x (.inr rfl)).1 hx
  · rcases List.mem_append.mp z with z | z
    · exact (r.hid a (.inl h)).1 z
    · have : a = L := by simpa using z
      exact hn (this ▸ h)
  · by_cases hk : k < m2.length
    · rw [List.getElem?_append_left hk] at ek
      rw [List.getElem?_append_left (by rw [← hl]; exact hk)] at ex
      have q := r.obj k b x ek ex
      cases x with
      | lst l => obtain ⟨vs, e, q⟩ := q; exact ⟨vs, e, pairMono (fun _ _ => RD.shown hl) q⟩
      | fz l => obtain ⟨vs, e, q⟩ := q; exact ⟨vs, e, RPs_iff.mpr (pairMono (fun _ _ => RP.shown hl) (RPs_iff.mp q))⟩
      | dic l => obtain ⟨vs, e, q⟩ := q; exact ⟨vs, e, pairMono (fun _ _ q => ⟨q.1, RD.shown hl q.2⟩) q⟩
      | dik l => obtain ⟨vs, e, q⟩ := q; exact ⟨vs, e, pairMono (fun _ _ q => ⟨q.1, RD.shown hl q.2⟩) q⟩
      | ins c l => obtain ⟨C, dx, vs, hc, e, ho, q⟩ := q; exact ⟨C, dx, vs, hc, e, ho, pairMono (fun _ _ q => ⟨q.1, RD.shown hl q.2⟩) q⟩
    · rw [List.getElem?_append_right (Nat.le_of_not_lt hk)] at ek
      have h0 : k - m2.length = 0 := by
        have := (List.getElem?_eq_some_iff.mp ek).1
        simp at this
        omega
      rw [h0] at ek
      have eb : b = L := (Option.some.inj ek).symm
      subst eb
      rw [List.getElem?_append_right (by rw [← hl]; omega), ← hl, h0] at ex
      have : x = .lst (acc.map .p) := (Option.some.inj ex).symm
      subst this
      exact ⟨ws, eL, RDs_p.mpr (RPs_iff.mpr (pairMono (fun _ _ => RP.shown hl) (RPs_iff.mp ra)))⟩
theorem Nx.shown (x : Nx (KX X κ) m1 S1 H1 m2 S2 H2) (hL : H1 L = none) (hlen : m2.length = S2.length) : Nx (KX X κ) m1 S1 H1 (m2 ++ [L]) (S2 ++ [o]) H2 := by
  refine ⟨x.tup, fun a vs h n => ?_, ?_, x.frz, x.xd, x.hid, x.own⟩
  · obtain ⟨e, nl⟩ := x.lst a vs h n
    refine ⟨e, fun z => ?_⟩
    rcases lv_shown (κ := κ) (X := X) hlen z with q | q
    · rcases q with q | q
      · exact nl (.inl q)
      · rw [q, hL] at h; cases h
    · exact nl (.inr q)
  · obtain ⟨t, rfl⟩ := x.ext
    exact ⟨t ++ [L], by simp⟩
theorem imp_lcO {wi : TI} {fi : Env → Sto → Rs IDt} {g : GD} {c : BD} {f : ED} {vs : List Nat} (ii : Imp X W (fun K m S H (d : IDt) (J : It) => ItOk K m S H J d.1 d.2) wi fi) :
    Imp X W RD (tLc wi (canG X vs g) (can X (fun _ _ _ _ => False) RB c) (can X (fun _ _ _ _ => False) RD f) vs) (eLcO fi g c f vs) := by
  intro κ ρ S σ H m Q rl re h
  refine ii.seq rl re h fun d S1 J H1 m1 x1 rl1 re1 iok h1 => ?_
  obtain ⟨ds, chk⟩ := d
  have iok : ItOk (KX X κ) m1 S1 H1 J ds chk := iok
  intro L hL
  have hnk : ¬ κ L := fun z => by
    obtain ⟨u, e, _⟩ := (rl1.hid L z).2
    rw [hL] at e; cases e
  let κ' : Addr → Prop := fun a => κ a ∨ a = L
  have hsub : ∀ a, κ' a → κ a ∨ H1 a = none := fun a z => z.elim .inl fun z => .inr (by rw [z]; exact hL)
  have hL' : κ' L := .inr rfl
  -- the state between two turns
  let St' : Nat → Hp → Prop := fun i H2 => ∃ S2 m2 acc ws, Nx (KX X κ) m1 S1 H1 m2 S2 H2 ∧ Rl (KX X κ') m2 S2 H2 ∧ chk S2 ∧ H2 L = some (.lst ws) ∧ RPs (KX X κ') H2 (lv (KX X κ') m2 S2) acc ws ∧
    Post X κ W m1 S1 H1 σ (RD (KX X κ)) (okLO (lcL g c f chk (wipeE ρ vs) (ds.drop i) acc S2)) Q
  refine ⟨fun i n H2 => n = ds.length - i ∧ i ≤ ds.length ∧ St' i H2, ⟨ds.length, by simp, Nat.zero_le _, S1, m1, [], [], Nx.new rl1 hL, rl1.hide hL trivial, iok.here, upd_same, by rw [RPs], h1⟩, ?_⟩
  rintro i n H2 ⟨rfl, hi, S2, m2, acc, ws, x2, rl2, ck, eL, racc, h2⟩
  by_cases hlt : i < ds.length
  · have ed : ds.drop i = ds[i] :: ds.drop (i + 1) := List.drop_eq_getElem_cons hlt
    rw [ed] at h2
    obtain ⟨hgo, hy⟩ := iok.go κ' m2 S2 H2 i ds[i] hsub x2 rl2 ck (List.getElem?_eq_getElem hlt)
    refine .inr ⟨hgo, fun H' => i + 1 ≤ ds.length ∧ St' (i + 1) H', fun H' z => ⟨ds.length - (i + 1), by omega, rfl, z.1, z.2⟩, fun x H'' y => ?_⟩
    obtain ⟨x3, rl3, r3⟩ := hy x H'' y
    have re3 : RE (KX X κ') m2 S2 H'' (wipeE ρ vs) (L2.wipe σ vs) := (RE.nxh (K := KX X κ) x2 hsub (RE.wipe re1 vs)).nx x3
    unfold lcL at h2
    refine ⟨κ', ds[i], wipeE ρ vs, S2, m2, rl3, re3, r3, ?_⟩
    cases e1 : g ds[i] (wipeE ρ vs) S2 with
    | st => simp only [e1] at h2; exact h2.elim
    | ex _ _ => simp only [e1] at h2; exact h2.elim
    | ok ρ4 S4 =>
      simp only [e1] at h2
      intro σ4 H4 m4 x4 rl4 re4 wp
      refine ⟨wp.trans (wipe_wipe σ vs (fun _ z => z)), κ', ρ4, S4, m4, rl4, re4, ?_⟩
      cases e2 : c ρ4 S4 with
      | st => simp only [e2] at h2; exact h2.elim
      | ex _ _ => simp only [e2] at h2; exact h2.elim
      | ok b S5 =>
        intro b' H5 m5 x5 rl5 eb
        have eb : b = b' := eb
        subst eb
        have x25 := x3.trans (x4.trans x5)
        cases b with
        | true =>
          simp only [e2] at h2
          rw [if_pos rfl]
          refine ⟨κ', ρ4, S5, m5, rl5, re4.nx x5, ?_⟩
          cases e3 : f ρ4 S5 with
          | st => simp only [e3] at h2; exact h2.elim
          | ex _ _ => simp only [e3] at h2; exact h2.elim
          | ok y5 S6 =>
            simp only [e3] at h2
            intro v6 H6 m6 x6 rl6 r6
            cases e4 : restD y5 S6 with
            | none => simp only [e4] at h2; exact h2.elim
            | some pr =>
              obtain ⟨p, S7⟩ := pr
              simp only [e4] at h2
              by_cases hk : acc.length < sizeLine ∧ chk S7
              · rw [if_pos hk] at h2
                obtain ⟨rl7, x7, r7⟩ := r6.restD rl6 e4
                have x27 := x25.trans (x6.trans x7)
                have eL6 : H6 L = some (.lst ws) := (x27.hid L hL').trans eL
                have ra6 := racc.nx x27
                refine ⟨ws, eL6, by rw [← RPs_len ra6]; exact hk.1, hlt, S7, m6, acc ++ [p], ws ++ [v6], ?_, rl7.hidw hL' trivial, hk.2, upd_same, ?_, h2⟩
                · exact Nx.hidw (x2.hidden (h' := κ') x27 (fun a z => .inl z) hsub) hL ⟨_, eL6, trivial⟩ hnk
                · have hm := hid_upd_lst (o := .lst (ws ++ [v6])) rl7 hL'
                  have ht : ∀ a us, H6 a = some (.tup us) → (upd H6 L (.lst (ws ++ [v6]))) a = some (.tup us) := fun a us h => sqT_upd h (.inr ⟨_, eL6, trivial⟩)
                  exact RPs.mono (K := KX X κ') ht hm _ _ (RPs_app ra6 (RPs_iff.mpr (.cons r7 .nil)))
              · rw [if_neg hk] at h2; exact h2.elim
        | false =>
          simp only [e2] at h2
          rw [if_neg Bool.false_ne_true]
          by_cases hk : chk S5
          · rw [if_pos hk] at h2
            refine ⟨hlt, S5, m5, acc, ws, x2.hidden (h' := κ') x25 (fun a z => .inl z) hsub, rl5, hk, (x25.hid L hL').trans eL, racc.nx x25, h2⟩
          · rw [if_neg hk] at h2; exact h2.elim
  · have e0 : ds.drop i = [] := List.drop_eq_nil_of_le (Nat.le_of_not_lt hlt)
    rw [e0] at h2
    refine .inl ⟨iok.stop κ' m2 S2 H2 i hsub x2 rl2 ck (Nat.le_of_not_lt hlt), ?_⟩
    have hnm : L ∉ m2 := (rl2.hid L hL').1
    refine h2 (.ref L) H2 (m2 ++ [L]) (Nx.shown x2 hL rl2.len) (Rl.shown (κ := κ) rl2 hnk eL racc) ?_
    refine ⟨L, ?_, rfl⟩
    rw [← rl2.len, List.getElem?_append_right (Nat.le_refl _), Nat.sub_self]
    rfl
section
variable {elt tg iter : Expr} {ifs : List Expr} {scope : Scope} {own : List (Str × Nat)} {fi : Env → Sto → Rs IDt} {g : GD} {c : BD} {f : ED}
theorem de_lcO (hc : X.calm = true) (hN : X.N.Nodup) (hi : DI X W tg iter fi) (ok : BlkOk X.N X.env.scope scope own)
    (hg : ∀ (s : Shared) (H : Hp) (C : Addr) (cl : List (Str × Addr)) (fp : List Addr), DGw (X.blk s H scope (compEnvC scope cl C X.env) fp) tg (own.map fun x => x.2) g)
    (ht : ∀ (s : Shared) (H : Hp) (C : Addr) (cl : List (Str × Addr)) (fp : List Addr), DTs (X.blk s H scope (compEnvC scope cl C X.env) fp) (fun _ _ _ _ => False) ifs c)
    (he : ∀ (s : Shared) (H : Hp) (C : Addr) (cl : List (Str × Addr)) (fp : List Addr), DE (X.blk s H scope (compEnvC scope cl C X.env) fp) (fun _ _ _ _ => False) elt f)
    (hs : ∀ x, foldedSetIterable iter X.env x = pure x := by intro _; rfl) : DE X W (.ListComp elt [⟨tg, iter, ifs, 0⟩] scope pos) (eLcO fi g c f (own.map fun x => x.2)) := by
  obtain ⟨wi, pi, ii⟩ := hi
  exact ⟨_, @pe_lc X elt tg iter ifs scope own pos wi (canG X (List.map (fun (x : Str × Nat) => x.2) own) g) (can X (fun _ _ _ _ => False) RB c) (can X (fun _ _ _ _ => False) RD f) hc hN pi ok (fun s H C cl fp => (hg s H C cl fp).run) (fun s H C cl fp => (ht s H C cl fp).run) (fun s H C cl fp => (he s H C cl fp).can) hs, imp_lcO ii⟩
theorem ds_setLcO (i : Nat) {y : Str} {py spos : Pos} (hN : X.N.Nodup) (hi : DI X W tg iter fi) (ok : BlkOk X.N X.env.scope scope own)
    (hg : ∀ (s : Shared) (H : Hp) (C : Addr) (cl : List (Str × Addr)) (fp : List Addr), DGw (X.blk s H scope (compEnvC scope cl C X.env) fp) tg (own.map fun x => x.2) g)
    (ht : ∀ (s : Shared) (H : Hp) (C : Addr) (cl : List (Str × Addr)) (fp : List Addr), DTs (X.blk s H scope (compEnvC scope cl C X.env) fp) (fun _ _ _ _ => False) ifs c)
    (he : ∀ (s : Shared) (H : Hp) (C : Addr) (cl : List (Str × Addr)) (fp : List Addr), DE (X.blk s H scope (compEnvC scope cl C X.env) fp) (fun _ _ _ _ => False) elt f)
    (hc : X.calm = true := by rfl) (hy : X.N[i]? = some y := by rfl) (hyl : X.env.scope.names.lookup y = some .local := by rfl) (hsw : swapsWith (.ListComp elt [⟨tg, iter, ifs, 0⟩] scope pos) (some (.Name y py)) spos.line X.env = pure true := by exact sw_true rfl rfl rfl (by decide +kernel))
    (hs : ∀ x, foldedSetIterable iter X.env x = pure x := by intro _; rfl) : DS X W (.Assign [.Name y py] (.ListComp elt [⟨tg, iter, ifs, 0⟩] scope pos) spos) (sSet i (eLcO fi g c f (own.map fun x => x.2))) := by
  obtain ⟨wi, pi, ii⟩ := hi
  refine ⟨_, @ps_setLc X i y py elt tg iter ifs scope own pos spos wi (canG X (List.map (fun (x : Str × Nat) => x.2) own) g) (can X (fun _ _ _ _ => False) RB c) (can X (fun _ _ _ _ => False) RD f) hc hN hy hyl hsw pi ok (fun s H C cl fp => (hg s H C cl fp).run) (fun s H C cl fp => (ht s H C cl fp).run) (fun s H C cl fp => (he s H C cl fp).can) hs, fun κ ρ S σ H m Dn rl re h => ?_⟩
  refine (imp_lcO ii).seqS rl re h fun d S1 v H1 m1 x1 rl1 re1 r1 h1 => ?_
  exact h1 _ H1 m1 .refl rl1 (pairSet re1 fun d' e => ⟨v, rfl, by cases e; exact r1⟩)
end
end
end DL

/-! list comprehensions with two fors, the inner one over data at rest -/
namespace DL
open PySem PySem.Spec PyProof.Rows L2
def Fz (d : PyData) (l : List PyData) : Prop := d = .list l ∨ d = .tuple l
/-- what a walk over data at rest does -/
def FzAt (d : PyData) (H : Hp) (q : Addr) (us : List V) : Prop := match d with
  | .list _ => H q = some (.lst us)
  | _ => H q = some (.tup us)
def RIf : Kh → List Addr → Sto → Hp → PyData × List PyData → It → Prop := fun K m S H d J => Fz d.1 d.2 ∧ ∃ q, RP K H (lv K m S) d.1 (.ref q) ∧
  ∀ (H' : Hp) (us : List V), FzAt d.1 H' q us → ∀ i, (∀ y, us[i]? = some y → J.go i H' ∧ ∀ x H'', J.yld i H' x H'' → H'' = H' ∧ x = y) ∧ (us.length ≤ i → J.stop i H')
structure DIf (X : Cx) (W : WX) (tg iter : Expr) (f : Env → Sto → Rs (PyData × List PyData)) : Prop where
  ex : ∃ wi : TI, PI X tg iter wi ∧ Imp X W RIf wi f
def iFzL (f : ED) : Env → Sto → Rs (PyData × List PyData) := fun ρ S => (f ρ S).bind fun d S1 => match d with
  | .p (.list l) => .ok (.list l, l) S1
  | _ => .st
def iFzT (f : ED) : Env → Sto → Rs (PyData × List PyData) := fun ρ S => (f ρ S).bind fun d S1 => match d with
  | .p (.tuple l) => .ok (.tuple l, l) S1
  | _ => .st
open Classical in
noncomputable def lc2L (g : GD) (c : BD) (i1 : Env → Sto → Rs (PyData × List PyData)) (inner : Env → List D → List PyData → Sto → Option (List PyData × Sto)) (chk : Sto → Prop) (vs1 : List Nat) (ρ : Env) : List D → List PyData → Sto → Option (List PyData × Sto)
  | [], acc, S => some (acc, S)
  | d :: ds, acc, S => match g d ρ S with
    | .ok ρ1 S1 => (match c ρ1 S1 with
      | .ok true S2 => (match i1 ρ1 S2 with
        | .ok l S3 => (match inner (wipeE ρ1 vs1) (l.2.map .p) acc S3 with
          | some (acc', S4) => if chk S4 then lc2L g c i1 inner chk vs1 ρ ds acc' S4 else none
          | none => none)
        | _ => none)
      | .ok false S2 => if chk S2 then lc2L g c i1 inner chk vs1 ρ ds acc S2 else none
      | _ => none)
    | _ => none
noncomputable def eLc2 (i : Env → Sto → Rs IDt) (g : GD) (c : BD) (i1 : Env → Sto → Rs (PyData × List PyData)) (g1 : GD) (c1 : BD) (f : ED) (vs vs1 : List Nat) : ED := fun ρ S => (i ρ S).bind fun d S1 =>
  okL (lc2L g c i1 (lcL g1 c1 f (fun _ => True)) d.2 vs1 (wipeE ρ vs) d.1 [] S1)
section
variable {X : Cx} {W : WX} {m m1 m2 : List Addr} {S S1 S2 : Sto} {H H1 H2 : Hp} {κ : Addr → Prop} {L : Addr} {o : HO}
theorem DIf.can {tg iter : Expr} {f : Env → Sto → Rs (PyData × List PyData)} (h : DIf X W tg iter f) : PI X tg iter (can X W RIf f) := by
  obtain ⟨t, p, i⟩ := h
  exact ⟨fun pins s σ H Q I ⟨κ, ρ, S, m, rl, re, h⟩ => p.run pins s σ H Q I (i κ ρ S σ H m Q rl re h)⟩
theorem dif_lst {tg e : Expr} {fe : ED} (he : DE X W e fe) : DIf X W tg e (iFzL fe) := by
  obtain ⟨t, p, i⟩ := he
  refine ⟨_, pi_list p, fun κ ρ S σ H m Q rl re h => ?_⟩
  refine i.seq rl re h fun d S1 v H1 m1 x1 rl1 re1 r1 h1 => ?_
  split at h1
  · rename_i l
    have r2 : RP (KX X κ) H1 (lv (KX X κ) m1 S1) (.list l) v := r1
    rw [RP] at r2
    obtain ⟨q, us, rfl, q1, q2, q3⟩ := r2
    refine ⟨q, rfl, ⟨us, .of q1⟩, h1.ok' .refl rl1 ⟨.inl rfl, q, r1, fun H' us' hs i => ⟨fun y ey => ?_, fun hi => ?_⟩⟩⟩
    · have sq : SqL X.K H' q us' := .of hs
      refine ⟨⟨us', y, sq, ey⟩, fun z H'' hy => ?_⟩
      obtain ⟨e, hy⟩ := hy
      have := hy us' sq
      rw [ey] at this
      exact ⟨e, (Option.some.inj this).symm⟩
    · have sq : SqL X.K H' q us' := .of hs
      exact ⟨us', sq, hi⟩
  · exact h1.elim
theorem dif_tup {tg e : Expr} {fe : ED} (he : DE X W e fe) : DIf X W tg e (iFzT fe) := by
  obtain ⟨t, p, i⟩ := he
  refine ⟨_, pi_tup p, fun κ ρ S σ H m Q rl re h => ?_⟩
  refine i.seq rl re h fun d S1 v H1 m1 x1 rl1 re1 r1 h1 => ?_
  split at h1
  · rename_i l
    have r2 : RP (KX X κ) H1 (lv (KX X κ) m1 S1) (.tuple l) v := r1
    rw [RP] at r2
    obtain ⟨q, us, rfl, q1, q2⟩ := r2
    refine ⟨q, rfl, ⟨us, .of q1⟩, h1.ok' .refl rl1 ⟨.inr rfl, q, r1, fun H' us' hs i => ⟨fun y ey => ?_, fun hi => ?_⟩⟩⟩
    · have sq : SqT X.K H' q us' := .of hs
      refine ⟨⟨us', y, sq, ey⟩, fun z H'' hy => ?_⟩
      obtain ⟨e, hy⟩ := hy
      have := hy us' sq
      rw [ey] at this
      exact ⟨e, (Option.some.inj this).symm⟩
    · have sq : SqT X.K H' q us' := .of hs
      exact ⟨us', sq, hi⟩
  · exact h1.elim
theorem FzAt.of {K : Kh} {d : PyData} {l : List PyData} {q : Addr} {P : Addr → Prop} (f : Fz d l) (h : RP K H P d (.ref q)) : ∃ us, FzAt d H q us ∧ RPs K H P l us := by
  rcases f with rfl | rfl
  · rw [RP] at h
    obtain ⟨a, us, e, q1, _, q3⟩ := h
    cases e
    exact ⟨us, q1, q3⟩
  · rw [RP] at h
    obtain ⟨a, us, e, q1, q3⟩ := h
    cases e
    exact ⟨us, q1, q3⟩
theorem RD.hidw {ws : List V} (rl : Rl (KX X κ) m S H) (hL : κ L) (eL : H L = some (.lst ws)) {d : D} {v : V} (h : RD (KX X κ) m S H d v) : RD (KX X κ) m S (upd H L o) d v := by
  have ht : ∀ a us, H a = some (.tup us) → (upd H L o) a = some (.tup us) := fun a us h => sqT_upd h (.inr ⟨_, eL, trivial⟩)
  cases d with
  | p d => exact RP.mono (K := KX X κ) ht (hid_upd_lst rl hL) d v h
  | ob n => exact h
  | scr ns =>
    obtain ⟨a, e, h⟩ := h
    refine ⟨a, e, h.imp (fun ⟨o', e'⟩ => ⟨o', ?_⟩) id⟩
    rw [upd_ne (fun z => by rw [z, eL] at e'; cases e')]
    exact e'
  | xc a dd fs =>
    refine ⟨h.1, fun d e => ?_⟩
    have e' := h.2 d e
    rw [upd_ne (fun z => by rw [z, eL] at e'; cases e')]
    exact e'
theorem RE.hidw {ws : List V} (rl : Rl (KX X κ) m S H) (hL : κ L) (eL : H L = some (.lst ws)) {ρ : Env} {σ : St} (h : RE (KX X κ) m S H ρ σ) : RE (KX X κ) m S (upd H L o) ρ σ :=
  pairMono (fun _ _ h d e => let ⟨v, e1, r⟩ := h d e; ⟨v, e1, RD.hidw rl hL eL r⟩) h
theorem imp_lc2 {wi : TI} {fi : Env → Sto → Rs IDt} {g g1 : GD} {c c1 : BD} {i1 : Env → Sto → Rs (PyData × List PyData)} {f : ED} {vs vs1 : List Nat} (ii : Imp X W (fun K m S H (d : IDt) (J : It) => ItOk K m S H J d.1 d.2) wi fi) :
    Imp X W RD (tLc2 wi (canG X vs g) (can X (fun _ _ _ _ => False) RB c) (can X (fun _ _ _ _ => False) RIf i1) (canG X vs1 g1) (can X (fun _ _ _ _ => False) RB c1) (can X (fun _ _ _ _ => False) RD f) vs vs1) (eLc2 fi g c i1 g1 c1 f vs vs1) := by
  classical
  intro κ ρ S σ H m Q rl re h
  refine ii.seq rl re h fun d S1 J H1 m1 x1 rl1 re1 iok h1 => ?_
  obtain ⟨ds, chk⟩ := d
  have iok : ItOk (KX X κ) m1 S1 H1 J ds chk := iok
  intro L hL
  have hnk : ¬ κ L := fun z => by
    obtain ⟨u, e, _⟩ := (rl1.hid L z).2
    rw [hL] at e; cases e
  let κ' : Addr → Prop := fun a => κ a ∨ a = L
  have hsub : ∀ a, κ' a → κ a ∨ H1 a = none := fun a z => z.elim .inl fun z => .inr (by rw [z]; exact hL)
  have hL' : κ' L := .inr rfl
  let inn := lcL g1 c1 f (fun _ => True)
  let outer := fun (es : List D) acc S2 => lc2L g c i1 inn chk vs1 (wipeE ρ vs) es acc S2
  -- what both loops know between two turns
  let Kn : Sto → List Addr → List PyData → Hp → Prop := fun S2 m2 acc H2 => ∃ ws, Nx (KX X κ) m1 S1 H1 m2 S2 H2 ∧ Rl (KX X κ') m2 S2 H2 ∧ H2 L = some (.lst ws) ∧ RPs (KX X κ') H2 (lv (KX X κ') m2 S2) acc ws
  let St' : Nat → Hp → Prop := fun i H2 => ∃ S2 m2 acc, Kn S2 m2 acc H2 ∧ chk S2 ∧ Post X κ W m1 S1 H1 σ (RD (KX X κ)) (okL (outer (ds.drop i) acc S2)) Q
  refine ⟨fun i n H2 => n = ds.length - i ∧ i ≤ ds.length ∧ St' i H2, ⟨ds.length, by simp, Nat.zero_le _, S1, m1, [], ⟨[], Nx.new rl1 hL, rl1.hide hL trivial, upd_same, by rw [RPs]⟩, iok.here, ?_⟩, ?_⟩
  · exact h1
  rintro i n H2 ⟨rfl, hi, S2, m2, acc, ⟨ws, x2, rl2, eL, racc⟩, ck, h2⟩
  by_cases hlt : i < ds.length
  · have ed : ds.drop i = ds[i] :: ds.drop (i + 1) := List.drop_eq_getElem_cons hlt
    rw [ed] at h2
    obtain ⟨hgo, hy⟩ := iok.go κ' m2 S2 H2 i ds[i] hsub x2 rl2 ck (List.getElem?_eq_getElem hlt)
    refine .inr ⟨hgo, fun H' => i + 1 ≤ ds.length ∧ St' (i + 1) H', fun H' z => ⟨ds.length - (i + 1), by omega, rfl, z.1, z.2⟩, fun x H'' y => ?_⟩
    obtain ⟨x3, rl3, r3⟩ := hy x H'' y
    have re3 : RE (KX X κ') m2 S2 H'' (wipeE ρ vs) (L2.wipe σ vs) := (RE.nxh (K := KX X κ) x2 hsub (RE.wipe re1 vs)).nx x3
    simp only [outer] at h2
    unfold lc2L at h2
    refine ⟨κ', ds[i], wipeE ρ vs, S2, m2, rl3, re3, r3, ?_⟩
    cases e1 : g ds[i] (wipeE ρ vs) S2 with
    | st => simp only [e1] at h2; exact h2.elim
    | ex _ _ => simp only [e1] at h2; exact h2.elim
    | ok ρ4 S4 =>
      simp only [e1] at h2
      intro σ4 H4 m4 x4 rl4 re4 wp
      refine ⟨wp.trans (wipe_wipe σ vs (fun _ z => z)), κ', ρ4, S4, m4, rl4, re4, ?_⟩
      cases e2 : c ρ4 S4 with
      | st => simp only [e2] at h2; exact h2.elim
      | ex _ _ => simp only [e2] at h2; exact h2.elim
      | ok b S5 =>
        intro b' H5 m5 x5 rl5 eb
        have eb : b = b' := eb
        subst eb
        have x25 := x3.trans (x4.trans x5)
        have hp5 : H5 L = some (.lst ws) := (x25.hid L hL').trans eL
        have y5 : Nx (KX X κ) m1 S1 H1 m5 S5 H5 := x2.hidden (h' := κ') x25 (fun a z => .inl z) hsub
        cases b with
        | false =>
          simp only [e2] at h2
          rw [if_neg Bool.false_ne_true]
          by_cases hk : chk S5
          · rw [if_pos hk] at h2
            exact ⟨hlt, S5, m5, acc, ⟨ws, y5, rl5, hp5, racc.nx x25⟩, hk, h2⟩
          · rw [if_neg hk] at h2; exact h2.elim
        | true =>
          simp only [e2] at h2
          rw [if_pos rfl]
          have re5 := re4.nx x5
          refine ⟨κ', ρ4, S5, m5, rl5, re5, ?_⟩
          cases e3 : i1 ρ4 S5 with
          | st => simp only [e3] at h2; exact h2.elim
          | ex _ _ => simp only [e3] at h2; exact h2.elim
          | ok dl S6 =>
            obtain ⟨dd, l⟩ := dl
            simp only [e3] at h2
            intro J1 H6 m6 x6 rl6 hJ
            obtain ⟨hf, q, hq, hJ⟩ := hJ
            have hf : Fz dd l := hf
            have hq : RD (KX X κ') m6 S6 H6 (.p dd) (.ref q) := hq
            have x26 := x25.trans x6
            have y6 : Nx (KX X κ) m1 S1 H1 m6 S6 H6 := x2.hidden (h' := κ') x26 (fun a z => .inl z) hsub
            let In : Nat → Hp → Prop := fun j H7 => ∃ S7 m7 acc7, Kn S7 m7 acc7 H7 ∧ RE (KX X κ') m7 S7 H7 (wipeE ρ4 vs1) (L2.wipe σ4 vs1) ∧ RD (KX X κ') m7 S7 H7 (.p dd) (.ref q) ∧
              (match inn (wipeE ρ4 vs1) ((l.map D.p).drop j) acc7 S7 with
                | some (acc8, S8) => Post X κ W m1 S1 H1 σ (RD (KX X κ)) (okL (if chk S8 then outer (ds.drop (i + 1)) acc8 S8 else none)) Q
                | none => False)
            refine ⟨fun j k H7 => k = l.length - j ∧ j ≤ l.length ∧ In j H7, ⟨l.length, by simp, Nat.zero_le _, S6, m6, acc, ⟨ws, y6, rl6, (x26.hid L hL').trans eL, racc.nx x26⟩, RE.wipe (re5.nx x6) vs1, hq, ?_⟩, ?_⟩
            · show (match inn (wipeE ρ4 vs1) (l.map D.p) acc S6 with | some (acc8, S8) => _ | none => False)
              cases ei : inn (wipeE ρ4 vs1) (l.map D.p) acc S6 with
              | none => rw [ei] at h2; exact h2.elim
              | some pr => rw [ei] at h2; exact h2
            rintro j k H7 ⟨rfl, hj, S7, m7, acc7, ⟨ws7, x7, rl7, eL7, racc7⟩, re7, rq7, h7⟩
            obtain ⟨us, hus, rus⟩ := FzAt.of hf rq7
            have hlen : l.length = us.length := RPs_len rus
            obtain ⟨hgo1, hstop1⟩ := hJ H7 us hus j
            by_cases hjl : j < l.length
            · have hel : (l.map D.p).drop j = .p l[j] :: (l.map D.p).drop (j + 1) := by
                rw [List.drop_eq_getElem_cons (by simpa using hjl)]; simp
              rw [hel] at h7
              have hjl' : j < us.length := hlen ▸ hjl
              obtain ⟨go1, yl1⟩ := hgo1 us[j] (List.getElem?_eq_getElem hjl')
              refine .inr ⟨go1, fun H' => j + 1 ≤ l.length ∧ In (j + 1) H', fun H' z => ⟨l.length - (j + 1), by omega, rfl, z.1, z.2⟩, fun x1 H' yy => ?_⟩
              obtain ⟨e, ex⟩ := yl1 x1 H' yy
              subst e
              subst ex
              have rj : RD (KX X κ') m7 S7 H' (.p l[j]) us[j] := by
                obtain ⟨y, ey, ry⟩ := pairGet (RPs_iff.mp rus) (List.getElem?_eq_getElem hjl)
                rw [List.getElem?_eq_getElem hjl'] at ey
                cases ey
                exact ry
              simp only [inn] at h7
              unfold lcL at h7
              refine ⟨κ', .p l[j], wipeE ρ4 vs1, S7, m7, rl7, re7, rj, ?_⟩
              cases f1 : g1 (.p l[j]) (wipeE ρ4 vs1) S7 with
              | st => simp only [f1] at h7 <;> exact h7.elim
              | ex _ _ => simp only [f1] at h7 <;> exact h7.elim
              | ok ρ8 S8 =>
                simp only [f1] at h7
                intro σ8 H8 m8 x8 rl8 re8 wp8
                refine ⟨wp8.trans (wipe_wipe σ4 vs1 (fun _ z => z)), κ', ρ8, S8, m8, rl8, re8, ?_⟩
                cases f2 : c1 ρ8 S8 with
                | st => simp only [f2] at h7 <;> exact h7.elim
                | ex _ _ => simp only [f2] at h7 <;> exact h7.elim
                | ok b9 S9 =>
                  intro b9' H9 m9 x9 rl9 eb9
                  have eb9 : b9 = b9' := eb9
                  subst eb9
                  have x79 := x8.trans x9
                  have y9 : Nx (KX X κ) m1 S1 H1 m9 S9 H9 := x7.hidden (h' := κ') x79 (fun a z => .inl z) hsub
                  have eL9 : H9 L = some (.lst ws7) := (x79.hid L hL').trans eL7
                  cases b9 with
                  | false =>
                    simp only [f2] at h7
                    rw [if_neg Bool.false_ne_true]
                    simp only [if_true] at h7
                    exact ⟨hjl, S9, m9, acc7, ⟨ws7, y9, rl9, eL9, racc7.nx x79⟩, re7.nx x79, rq7.nx x79, h7⟩
                  | true =>
                    simp only [f2] at h7
                    rw [if_pos rfl]
                    refine ⟨κ', ρ8, S9, m9, rl9, re8.nx x9, ?_⟩
                    cases f3 : f ρ8 S9 with
                    | st => simp only [f3] at h7 <;> exact h7.elim
                    | ex _ _ => simp only [f3] at h7 <;> exact h7.elim
                    | ok y5 Sa =>
                      simp only [f3] at h7
                      intro va Ha ma xa rla ra
                      cases f4 : restD y5 Sa with
                      | none => simp only [f4] at h7 <;> exact h7.elim
                      | some pr =>
                        obtain ⟨p, Sb⟩ := pr
                        simp only [f4, and_true] at h7
                        by_cases hk : acc7.length < sizeLine
                        · rw [if_pos hk] at h7
                          obtain ⟨rlb, xb, rb⟩ := ra.restD rla f4
                          have x7b := x79.trans (xa.trans xb)
                          have eLa : Ha L = some (.lst ws7) := (x7b.hid L hL').trans eL7
                          have racb := racc7.nx x7b
                          refine ⟨ws7, eLa, by rw [← RPs_len racb]; exact hk, hjl, Sb, ma, acc7 ++ [p], ⟨ws7 ++ [va], ?_, rlb.hidw hL' trivial, upd_same, ?_⟩, RE.hidw rlb hL' eLa (re7.nx x7b), RD.hidw rlb hL' eLa (rq7.nx x7b), h7⟩
                          · exact Nx.hidw (x7.hidden (h' := κ') x7b (fun a z => .inl z) hsub) hL ⟨_, eLa, trivial⟩ hnk
                          · have hm := hid_upd_lst (o := .lst (ws7 ++ [va])) rlb hL'
                            have ht : ∀ a us, Ha a = some (.tup us) → (upd Ha L (.lst (ws7 ++ [va]))) a = some (.tup us) := fun a us h => sqT_upd h (.inr ⟨_, eLa, trivial⟩)
                            exact RPs.mono (K := KX X κ') ht hm _ _ (RPs_app racb (RPs_iff.mpr (.cons rb .nil)))
                        · rw [if_neg hk] at h7 <;> exact h7.elim
            · have e0 : (l.map D.p).drop j = [] := List.drop_eq_nil_of_le (by simp; omega)
              rw [e0] at h7
              refine .inl ⟨hstop1 (by omega), hlt, S7, m7, acc7, ⟨ws7, x7, rl7, eL7, racc7⟩, ?_⟩
              have h7 : Post X κ W m1 S1 H1 σ (RD (KX X κ)) (okL (if chk S7 then outer (ds.drop (i + 1)) acc7 S7 else none)) Q := h7
              by_cases hk : chk S7
              · rw [if_pos hk] at h7; exact ⟨hk, h7⟩
              · rw [if_neg hk] at h7 <;> exact h7.elim
  · have e0 : ds.drop i = [] := List.drop_eq_nil_of_le (Nat.le_of_not_lt hlt)
    rw [e0] at h2
    refine .inl ⟨iok.stop κ' m2 S2 H2 i hsub x2 rl2 ck (Nat.le_of_not_lt hlt), ?_⟩
    refine h2 (.ref L) H2 m2 x2 (Rl.unh (K := KX X κ') (h' := κ) (fun a z => .inl z) rl2) ?_
    show RP _ _ _ _ _
    rw [RP]
    refine ⟨L, ws, rfl, eL, ?_, ?_⟩
    · rintro (z | ⟨k, o, z1, z2, z3⟩)
      · exact hnk z
      · exact (rl2.hid L hL').1 (List.mem_of_getElem? z1)
    · have := RDs_p.mpr racc
      exact RDs_p.mp (pairMono (fun _ _ => RD.unh (K := KX X κ') (h' := κ) (fun a z => .inl z)) this)
section
variable {elt tg iter tg1 iter1 : Expr} {ifs ifs1 : List Expr} {scope : Scope} {own : List (Str × Nat)} {vs1 : List Nat} {fi : Env → Sto → Rs IDt} {g g1 : GD} {c c1 : BD} {i1 : Env → Sto → Rs (PyData × List PyData)} {f : ED} {pos : Pos}
theorem de_lc2 (hc : X.calm = true) (hN : X.N.Nodup) (hi : DI X W tg iter fi) (ok : BlkOk X.N X.env.scope scope own) (hv : ∀ i ∈ vs1, i ∈ own.map fun x => x.2)
    (hg : ∀ (s : Shared) (H : Hp) (C : Addr) (cl : List (Str × Addr)) (fp : List Addr), DGw (X.blk s H scope (compEnvC scope cl C X.env) fp) tg (own.map fun x => x.2) g)
    (ht : ∀ (s : Shared) (H : Hp) (C : Addr) (cl : List (Str × Addr)) (fp : List Addr), DTs (X.blk s H scope (compEnvC scope cl C X.env) fp) (fun _ _ _ _ => False) ifs c)
    (hi1 : ∀ (s : Shared) (H : Hp) (C : Addr) (cl : List (Str × Addr)) (fp : List Addr), DIf (X.blk s H scope (compEnvC scope cl C X.env) fp) (fun _ _ _ _ => False) tg1 iter1 i1)
    (hg1 : ∀ (s : Shared) (H : Hp) (C : Addr) (cl : List (Str × Addr)) (fp : List Addr), DGw (X.blk s H scope (compEnvC scope cl C X.env) fp) tg1 vs1 g1)
    (ht1 : ∀ (s : Shared) (H : Hp) (C : Addr) (cl : List (Str × Addr)) (fp : List Addr), DTs (X.blk s H scope (compEnvC scope cl C X.env) fp) (fun _ _ _ _ => False) ifs1 c1)
    (he : ∀ (s : Shared) (H : Hp) (C : Addr) (cl : List (Str × Addr)) (fp : List Addr), DE (X.blk s H scope (compEnvC scope cl C X.env) fp) (fun _ _ _ _ => False) elt f)
    (hs : ∀ x, foldedSetIterable iter X.env x = pure x := by intro _; rfl) (hs1 : ∀ env x, foldedSetIterable iter1 env x = pure x := by intro _ _; rfl) :
    DE X W (.ListComp elt [⟨tg, iter, ifs, 0⟩, ⟨tg1, iter1, ifs1, 0⟩] scope pos) (eLc2 fi g c i1 g1 c1 f (own.map fun x => x.2) vs1) := by
  obtain ⟨wi, pi, ii⟩ := hi
  exact ⟨_, @pe_lc2 X elt tg iter tg1 iter1 ifs ifs1 scope own vs1 pos wi (can X (fun _ _ _ _ => False) RIf i1) (canG X (List.map (fun (x : Str × Nat) => x.2) own) g) (canG X vs1 g1) (can X (fun _ _ _ _ => False) RB c) (can X (fun _ _ _ _ => False) RB c1) (can X (fun _ _ _ _ => False) RD f) hc hN pi ok hv
    (fun s H C cl fp => (hg s H C cl fp).run) (fun s H C cl fp => (ht s H C cl fp).run) (fun s H C cl fp => (hi1 s H C cl fp).can) (fun s H C cl fp => (hg1 s H C cl fp).run) (fun s H C cl fp => (ht1 s H C cl fp).run) (fun s H C cl fp => (he s H C cl fp).can) hs hs1, imp_lc2 ii⟩
end
end
end DL

/-! a set of numbers made by a comprehension, sorted at once -/
namespace DL
open PySem PySem.Spec PyProof.Rows L2 PpSet
abbrev noI : Int → Bool := fun _ => false
abbrev withI (T : Int → Bool) (k : Int) : Int → Bool := fun j => T j || decide (j = k)
abbrev numI (T : Int → Bool) (k : Int) (n : Nat) : Nat := if T k = true then n else n + 1
abbrev bareSet (w : World) : Obj := { cls := .type "set", dict := none, data := .set #[] 0 (.fresh 0 0 (!w.params.followText "set-order")) }
theorem bareSet_R {hp : Heap} (w : World) : SetR w (hp.push (bareSet w)) hp.objs.size noI 0 := by
  refine ⟨bareSet w, #[], 0, _, Heap.get?_push_size _ rfl, ⟨rfl, rfl, rfl⟩, rfl, ?_, ?_, ?_, ?_, rfl, rfl, .nil, ?_⟩
  · intro e he; cases he
  · exact .nil
  · intro k; constructor <;> intro z <;> cases z
  · decide
  · by_cases z : w.params.followText "set-order" = true
    · exact .inl z
    · refine .inr ?_
      show (!w.params.followText "set-order") = true
      rw [Bool.not_eq_true'] 
      exact Bool.eq_false_iff.mpr z
section
variable {X : Cx}
theorem addI_ok {pins : List (Addr × Obj)} {σ : L2.St} {H : Hp} {s : Shared} {E : Value → Shared → Prop} {D : Addr} {T : Int → Bool} {n : Nat} {k : Int} {tk : Tok} {Q : Value → Shared → Prop} (I : Inv X pins σ H s) (hD : H D = some (SetO X.w D T n)) (room : n + 1 < scanBound)
    (h : ∀ s2, Inv X pins σ (upd H D (SetO X.w D (withI T k) (numI T k n))) s2 → Q .none s2) : wpAny (model X.prog X.w) X.A (call (.builtin "set.add") [.ref D, .int k tk]) Q E s := by
  refine setR_add (setO_get I hD) room fun h2 same now => h _ ?_
  obtain ⟨o, _, _, _, ho, _⟩ := id now
  exact I.write (e := D) (t' := s.toks + 1) (by rw [hD]; trivial) (.inl rfl) (fun b u hb hu => (same.2 b hb).trans hu) ⟨o, ho⟩ (setO_new now)
def tSetI (w : World) (wi : TI) (g : TG) (tt : TT) (te : TE) (vs : List Nat) : TE := fun σ H Q => wi σ H fun J H1 => ∀ D, H1 D = none → ∃ Z : Nat → Nat → Hp → Prop,
  (∃ m, Z 0 m (upd H1 D (SetO w D noI 0))) ∧ ∀ i m H2, Z i m H2 → (J.stop i H2 ∧ Q (.ref D) H2) ∨
    (J.go i H2 ∧ ∃ Fw : Hp → Prop, (∀ H3, Fw H3 → ∃ m', m' < m ∧ Z (i + 1) m' H3) ∧
      ∀ x H3, J.yld i H2 x H3 → g x (wipe σ vs) H3 fun σ4 H4 => wipe σ4 vs = wipe σ vs ∧ tt σ4 H4 fun b H5 =>
        if b = true then te σ4 H5 fun y H6 => ∃ (k : Int) (T : Int → Bool) (n : Nat), y = .int k ∧ H6 D = some (SetO w D T n) ∧ n + 1 < scanBound ∧ Fw (upd H6 D (SetO w D (withI T k) (numI T k n)))
        else Fw H5)
abbrev blkS (X : Cx) (s : Shared) (H : Hp) (scope : Scope) (fp : List Addr) : Cx := X.blk s H scope (compEnvC scope (cellsFrom (s.heap.objs.size + 1) scope.names (cloFrom X.env.cells scope.names [])) s.heap.objs.size X.env) fp
theorem pe_setI {elt tg iter : Expr} {ifs : List Expr} {scope : Scope} {own : List (PySem.Str × Nat)} {pos : Pos} {wi : TI} {g : TG} {tt : TT} {te : TE} (hc : X.calm = true) (hN : X.N.Nodup) (hi : PI X tg iter wi) (ok : BlkOk X.N X.env.scope scope own)
    (hg : ∀ (s : Shared) (H : Hp) (C : Addr) (cl : List (PySem.Str × Addr)) (fp : List Addr), PG (X.blk s H scope (compEnvC scope cl C X.env) fp) tg g)
    (ht : ∀ (s : Shared) (H : Hp) (C : Addr) (cl : List (PySem.Str × Addr)) (fp : List Addr), PTs (X.blk s H scope (compEnvC scope cl C X.env) fp) ifs tt)
    (he : ∀ (s : Shared) (H : Hp) (C : Addr) (cl : List (PySem.Str × Addr)) (fp : List Addr), PE (X.blk s H scope (compEnvC scope cl C X.env) fp) elt te)
    (hs : ∀ x, foldedSetIterable iter X.env x = pure x := by intro _; rfl) :
    PE X (.SetComp elt [⟨tg, iter, ifs, 0⟩] scope pos) (tSetI X.w wi g tt te (own.map fun x => x.2)) := by
  refine ⟨fun pins s σ H Q I h => ?_⟩
  rw [eval_SetComp]
  have frees : ∀ y ∈ scope.names, y.2 = .free → ∃ c, X.env.cells.lookup y.1 = some c := by
    intro y hy e
    rcases ok.free y hy e with k | k
    · exact I.ok.has _ (.inl k)
    · exact I.ok.has _ (.inr k)
  have walk := hi.run pins s σ H _ I h
  refine wpAny_comprehension_free (use := none) rfl hs (closure_ok frees) ok.kind (fun y hy e => by rw [ok.uniq y hy, e]) (thn walk fun xv sa hx => thn hx fun itv sb hb => ?_)
  obtain ⟨it, fp, tn, J, Hb, e, Ib, T, stb, fb, q⟩ := hb
  subst e
  refine newSet_ok (newEnv_comp ?_)
  obtain ⟨D, eD⟩ : ∃ D, sb.heap.objs.size = D := ⟨_, rfl⟩
  have freeD : Hb D = none := Ib.hok.fresh (Nat.le_of_eq eD)
  obtain ⟨Z, ⟨m0, z0⟩, turn⟩ := q D freeD
  -- the state with the new set
  let sc : Shared := { sb with heap := sb.heap.push (bareSet X.w) }
  let Hc : Hp := upd Hb D (SetO X.w D noI 0)
  have hsc : sc.heap = sb.heap.push (bareSet X.w) := rfl
  have newD : SetR X.w (sb.heap.push (bareSet X.w)) D noI 0 := eD ▸ bareSet_R X.w
  have Ic : Inv X pins σ Hc sc := Ib.laid (t' := sb.toks) (fun b o e => Heap.get?_push_of_some _ e) (Nat.le_of_eq eD) (setO_new newD)
  have below : ∀ b ∈ fp, b < sb.heap.objs.size := by
    intro b hb
    obtain ⟨o, e, _⟩ := T.obj _ _ stb b hb
    exact Heap.lt_size e
  have fc : ∀ b ∈ fp, FpOk X pins Hc b ∧ b < sc.heap.objs.size := by
    intro b hb
    have lt := below b hb
    have ne : b ≠ D := fun z => by rw [z, ← eD] at lt; exact absurd lt (Nat.lt_irrefl _)
    exact ⟨⟨(upd_ne ne).trans (fb b hb).1, (fb b hb).2⟩, by rw [hsc, Heap.size_push]; exact Nat.lt_succ_of_lt lt⟩
  have stc : tn 0 sc.heap := T.keep _ _ _ stb fun b _ o e => Heap.get?_push_of_some _ e
  have Id := block_start Ic ok hN fc
  have kg := hg sc Hc sc.heap.objs.size (cellsFrom (sc.heap.objs.size + 1) scope.names (cloFrom X.env.cells scope.names [])) fp
  have kt := ht sc Hc sc.heap.objs.size (cellsFrom (sc.heap.objs.size + 1) scope.names (cloFrom X.env.cells scope.names [])) fp
  have ke := he sc Hc sc.heap.objs.size (cellsFrom (sc.heap.objs.size + 1) scope.names (cloFrom X.env.cells scope.names [])) fp
  have freeFp : ∀ b ∈ fp, Hc b = none := fun b hb => (fc b hb).1.1
  obtain ⟨ce, hce⟩ : ∃ ce, compEnvC scope (cellsFrom (sc.heap.objs.size + 1) scope.names (cloFrom X.env.cells scope.names [])) sc.heap.objs.size X.env = ce := ⟨_, rfl⟩
  obtain ⟨sd, hsd⟩ : ∃ sd : Shared, { sc with heap := pushCells (sc.heap.push { cls := .type "dict", data := .dict #[] }) scope.names } = sd := ⟨_, rfl⟩
  have lce : ce.locals = sc.heap.objs.size := by rw [← hce]; rfl
  have std : tn 0 sd.heap := T.keep _ _ _ stc fun b _ o e => by rw [← hsd]; exact pushCells_keeps _ _ _ _ (Heap.get?_push_of_some _ e)
  rw [hce] at kg kt ke Id
  rw [hsd] at Id
  show codeAny (model X.prog X.w) X.A (.compStart (.SetComp elt [⟨tg, iter, ifs, 0⟩] scope pos) 0 (.ref it) (.ref sb.heap.objs.size) (compEnvC scope (cellsFrom (sc.heap.objs.size + 1) scope.names (cloFrom X.env.cells scope.names [])) sc.heap.objs.size X.env)) (compPost (model X.prog X.w) X.A X.xe none (EP X pins σ Q) (.ref sb.heap.objs.size) sc.heap.objs.size) { sc with heap := pushCells (sc.heap.push { cls := .type "dict", data := .dict #[] }) scope.names }
  rw [hce, hsd, eD]
  let Xb : Cx := X.blk sc Hc scope ce fp
  let σw := wipe σ (own.map fun x => x.2)
  have still : ∀ {σ' : L2.St} {H' : Hp} {s' : Shared}, Inv Xb [] σ' H' s' → (∀ b ∈ fp, H' b = none) → ∀ b ∈ fp, FpOk Xb [] H' b := by
    intro σ' H' s' I' hn b hb
    exact ⟨hn b hb, (I'.ok.exf b hb).1, I'.ok.exfs b hb, .inl hb, fun x c e => (I'.ok.exf b hb).2 x c e, fun p hp => nomatch (show p ∈ ([] : List (Addr × Obj)) from hp)⟩
  let Keep : Nat → Shared → Prop := fun n t => ∃ i H', Inv Xb [] σw H' t ∧ tn i t.heap ∧ (∀ b ∈ fp, H' b = none) ∧ Z i n H'
  have loop : codeAny (model X.prog X.w) X.A (.compLoop (.SetComp elt [⟨tg, iter, ifs, 0⟩] scope pos) 0 (.ref it) (.ref D) ce) (compPost (model X.prog X.w) X.A X.xe none (EP X pins σ Q) (.ref D) sc.heap.objs.size) sd := by
    refine compLoopS_any Keep ?_ m0 ⟨0, Hc, Id, std, freeFp, z0⟩
    rintro n t ⟨i, Ht, It, stt, nt, zt⟩
    rcases turn i n Ht zt with ⟨stop, qd⟩ | ⟨go, Fw, hFw, step⟩
    · refine thnF (T.done Xb rfl rfl rfl hc i [] t _ Ht (fun _ _ => False) It (still It nt) stt stop) fun r u hr => ?_
      obtain ⟨rfl, Iu⟩ := hr
      have Iv : Inv X pins σ Ht u := Ic.call' (ch := fp) Iu.os Iu.base Iu.hok Iu.bare fun b hb => by
        obtain ⟨⟨_, f1, f2, f3, f4, f5⟩, _⟩ := fc b hb
        exact ⟨f3, f1, f4, f5⟩
      have nC : Ht ce.locals = none := Iu.free
      obtain ⟨mm, hns, _⟩ := Iu.loc
      have hns : u.heap.Ns ce.locals mm := hns
      rw [lce] at hns nC
      obtain ⟨f0, f1, f2, f3, f4, f5⟩ := Ic.fpOk (H' := Ht) (Nat.le_refl _) nC
      exact ⟨mm, hns, fun h2 sb2 => ⟨.ref D, Ht, Iv.turned (t' := u.toks) (fun b o hb e => (sb2.2 b hb).trans e) f0 f1 f3 f4 f5, rfl, qd⟩⟩
    · refine thnF (T.item Xb rfl rfl rfl hc i [] t _ Ht (fun _ _ => False) It (still It nt) stt go) fun r u hr => ?_
      obtain ⟨v, rfl, hv⟩ := hr
      refine thnF hv fun _ t1 hx => ?_
      obtain ⟨x, H1, I1, r1, y1, st1, n1⟩ := hx
      have I1' := I1.pinned (still I1 n1) (T.obj _ _ st1)
      refine thnF (kg.run _ t1 _ H1 x v _ I1' r1 (step x H1 y1)) fun _ t2 h2 => ?_
      obtain ⟨σ2, H2, I2, w2, q2⟩ := h2
      refine thnF (kt.run _ t2 σ2 H2 _ I2 q2) fun b t3 h3 => ?_
      obtain ⟨H3, I3, q3⟩ := h3
      -- how a turn ends
      have close : ∀ {t' : Shared} {H' : Hp}, Inv Xb ([] ++ pinsAt fp t1.heap) σ2 H' t' → Fw H' → ∃ m, m < n ∧ Keep m t' := by
        intro t' H' I' nx
        obtain ⟨m', lt, zz⟩ := hFw H' nx
        have held : ∀ b ∈ fp, ∀ o, t1.heap.get? b = some o → t'.heap.get? b = some o ∧ H' b = none := by
          intro b hb o e
          have z := I'.pin (b, o) (List.mem_append_right _ (List.mem_append_right _ (mem_pinsAt hb e)))
          exact ⟨z.1, z.2.1⟩
        have ll : σw.length = σ2.length := by
          show (wipe σ _).length = _
          rw [← w2, wipe_length]
        refine ⟨m', lt, i + 1, H', (I'.unpinned (pins := [])).weak ll fun j v e => ?_, T.keep _ _ _ st1 fun b hb o e => (held b hb o e).1, fun b hb => ?_, zz⟩
        · have e : (wipe σ (own.map fun x => x.2))[j]? = some (some v) := e
          rw [← w2] at e
          exact (wipe_some e).1
        · obtain ⟨o, e, _⟩ := T.obj _ _ st1 b hb
          exact (held b hb o e).2
      cases b with
      | false =>
        rw [if_neg Bool.false_ne_true] at q3 ⊢
        exact close I3 q3
      | true =>
        rw [if_pos rfl] at q3 ⊢
        refine thnF (ke.run _ t3 σ2 H3 _ I3 q3) fun z t4 h4 => ?_
        obtain ⟨yv, H4, I4, r4, k, S0, n0, rfl, hD4, room, nx⟩ := h4
        obtain ⟨tk, rfl⟩ := r4
        exact addI_ok (X := Xb) I4 hD4 room fun t5 I5 => close I5 nx
  exact codeAny_compStart_set loop (T.self X.A 0 _ _ _ std loop)
end
/-! ### the numbers in order -/
def insI (k : Int) : List Int → List Int
  | [] => [k]
  | x :: l => if k < x then k :: x :: l else x :: insI k l
def srtI : List Int → List Int
  | [] => []
  | k :: l => insI k (srtI l)
theorem mem_insI {k j : Int} : ∀ {l : List Int}, j ∈ insI k l ↔ j = k ∨ j ∈ l
  | [] => by simp [insI]
  | x :: l => by
    unfold insI
    split
    · simp
    · rw [List.mem_cons, mem_insI, List.mem_cons]
      exact ⟨fun z => by rcases z with z | z | z <;> simp [z], fun z => by rcases z with z | z | z <;> simp [z]⟩
theorem mem_srtI {j : Int} : ∀ {l : List Int}, j ∈ srtI l ↔ j ∈ l
  | [] => Iff.rfl
  | k :: l => by
    show j ∈ insI k (srtI l) ↔ _
    rw [mem_insI, mem_srtI, List.mem_cons]
theorem insI_sorted {k : Int} : ∀ {l : List Int}, l.Pairwise (· < ·) → k ∉ l → (insI k l).Pairwise (· < ·)
  | [], _, _ => by simp [insI]
  | x :: l, h, hk => by
    obtain ⟨h1, h2⟩ := List.pairwise_cons.mp h
    unfold insI
    split
    · rename_i lt
      refine List.pairwise_cons.mpr ⟨fun y hy => ?_, h⟩
      rcases List.mem_cons.mp hy with z | z
      · rw [z]; exact lt
      · exact Int.lt_trans lt (h1 y z)
    · rename_i ge
      refine List.pairwise_cons.mpr ⟨fun y hy => ?_, insI_sorted h2 fun z => hk (List.mem_cons_of_mem _ z)⟩
      rcases mem_insI.mp hy with z | z
      · rw [z]
        have : k ≠ x := fun e => hk (by rw [e]; exact List.mem_cons_self)
        omega
      · exact h1 y z
theorem srtI_sorted : ∀ {l : List Int}, l.Nodup → (srtI l).Pairwise (· < ·)
  | [], _ => .nil
  | k :: l, h => by
    obtain ⟨h1, h2⟩ := List.nodup_cons.mp h
    exact insI_sorted (srtI_sorted h2) fun z => h1 (mem_srtI.mp z)
theorem sorted_one : ∀ {l k : List Int}, l.Pairwise (· < ·) → k.Pairwise (· < ·) → (∀ j, j ∈ l ↔ j ∈ k) → l = k
  | [], [], _, _, _ => rfl
  | [], y :: k, _, _, h => absurd ((h y).mpr List.mem_cons_self) (by simp)
  | x :: l, [], _, _, h => absurd ((h x).mp List.mem_cons_self) (by simp)
  | x :: l, y :: k, hl, hk, h => by
    obtain ⟨a1, a2⟩ := List.pairwise_cons.mp hl
    obtain ⟨b1, b2⟩ := List.pairwise_cons.mp hk
    have e : x = y := by
      rcases List.mem_cons.mp ((h x).mp List.mem_cons_self) with z | z
      · exact z
      · rcases List.mem_cons.mp ((h y).mpr List.mem_cons_self) with z2 | z2
        · exact z2.symm
        · have := b1 x z
          have := a1 y z2
          omega
    subst e
    congr 1
    refine sorted_one a2 b2 fun j => ⟨fun z => ?_, fun z => ?_⟩
    · rcases List.mem_cons.mp ((h j).mp (List.mem_cons_of_mem _ z)) with e | e
      · have := a1 j z; omega
      · exact e
    · rcases List.mem_cons.mp ((h j).mpr (List.mem_cons_of_mem _ z)) with e | e
      · have := b1 j z; omega
      · exact e
def addS (acc : List Int) (k : Int) : List Int := if k ∈ acc then acc else acc ++ [k]
theorem addS_nodup {acc : List Int} {k : Int} (h : acc.Nodup) : (addS acc k).Nodup := by
  unfold addS
  split
  · exact h
  · rename_i n
    rw [List.nodup_append]
    exact ⟨h, by simp, fun a ha b hb e => n (by rw [← List.mem_singleton.mp hb, ← e]; exact ha)⟩
theorem mem_addS {acc : List Int} {k j : Int} : j ∈ addS acc k ↔ j ∈ acc ∨ j = k := by
  unfold addS
  split
  · rename_i h
    exact ⟨.inl, fun z => z.elim id fun e => by rw [e]; exact h⟩
  · simp
open Classical in
noncomputable def lcSI (g : GD) (c : BD) (f : ED) (chk : Sto → Prop) (ρ : Env) : List D → List Int → Sto → Option (List Int × Sto)
  | [], acc, S => some (acc, S)
  | d :: ds, acc, S => match g d ρ S with
    | .ok ρ1 S1 => (match c ρ1 S1 with
      | .ok true S2 => (match f ρ1 S2 with
        | .ok (.p (.int k)) S3 => if acc.length + 1 < 64 ∧ chk S3 then lcSI g c f chk ρ ds (addS acc k) S3 else none
        | _ => none)
      | .ok false S2 => if chk S2 then lcSI g c f chk ρ ds acc S2 else none
      | _ => none)
    | _ => none
def okSI (r : Option (List Int × Sto)) : Rs D := match r with
  | some (l, S) => .ok (.lst ((srtI l).map .int)) S
  | none => .st
noncomputable def eSrtI (i : Env → Sto → Rs IDt) (g : GD) (c : BD) (f : ED) (vs : List Nat) : ED := fun ρ S => (i ρ S).bind fun d S1 => okSI (lcSI g c f d.2 (wipeE ρ vs) d.1 [] S1)
theorem scanBound_64 : 64 ≤ scanBound := by decide
section
variable {X : Cx} {W : WX}
theorem imp_srtI {wi : TI} {fi : Env → Sto → Rs IDt} {g : GD} {c : BD} {f : ED} {vs : List Nat} (ii : Imp X W (fun K m S H (d : IDt) (J : It) => ItOk K m S H J d.1 d.2) wi fi) :
    Imp X W RD (tCB (rSortedSet X.w) (tCons (tSetI X.w wi (canG X vs g) (can X (fun _ _ _ _ => False) RB c) (can X (fun _ _ _ _ => False) RD f) vs) tNil)) (eSrtI fi g c f vs) := by
  intro κ ρ S σ H m Q rl re h
  refine ii.seq rl re h fun d S1 J H1 m1 x1 rl1 re1 iok h1 => ?_
  obtain ⟨ds, chk⟩ := d
  have iok : ItOk (KX X κ) m1 S1 H1 J ds chk := iok
  intro L hL
  have hnk : ¬ κ L := fun z => by
    obtain ⟨u, e, _⟩ := (rl1.hid L z).2
    rw [hL] at e; cases e
  let κ' : Addr → Prop := fun a => κ a ∨ a = L
  have hsub : ∀ a, κ' a → κ a ∨ H1 a = none := fun a z => z.elim .inl fun z => .inr (by rw [z]; exact hL)
  have hL' : κ' L := .inr rfl
  let at_ : List Int → HO := fun acc => SetO X.w L (fun j => decide (j ∈ acc)) acc.length
  let St' : Nat → Hp → Prop := fun i H2 => ∃ S2 m2 acc, Nx (KX X κ) m1 S1 H1 m2 S2 H2 ∧ Rl (KX X κ') m2 S2 H2 ∧ chk S2 ∧ H2 L = some (at_ acc) ∧ acc.Nodup ∧ acc.length < 64 ∧
    Post X κ W m1 S1 H1 σ (RD (KX X κ)) (okSI (lcSI g c f chk (wipeE ρ vs) (ds.drop i) acc S2)) Q
  refine ⟨fun i n H2 => n = ds.length - i ∧ i ≤ ds.length ∧ St' i H2, ⟨ds.length, by simp, Nat.zero_le _, S1, m1, [], Nx.new rl1 hL, rl1.hide hL trivial, iok.here, ?_, .nil, by decide, h1⟩, ?_⟩
  · rw [upd_same]
    show some (SetO X.w L noI 0) = some (SetO X.w L (fun j => decide (j ∈ [])) 0)
    congr 2
  rintro i n H2 ⟨rfl, hi, S2, m2, acc, x2, rl2, ck, eL, nd, l64, h2⟩
  by_cases hlt : i < ds.length
  · have ed : ds.drop i = ds[i] :: ds.drop (i + 1) := List.drop_eq_getElem_cons hlt
    rw [ed] at h2
    obtain ⟨hgo, hy⟩ := iok.go κ' m2 S2 H2 i ds[i] hsub x2 rl2 ck (List.getElem?_eq_getElem hlt)
    refine .inr ⟨hgo, fun H' => i + 1 ≤ ds.length ∧ St' (i + 1) H', fun H' z => ⟨ds.length - (i + 1), by omega, rfl, z.1, z.2⟩, fun x H'' y => ?_⟩
    obtain ⟨x3, rl3, r3⟩ := hy x H'' y
    have re3 : RE (KX X κ') m2 S2 H'' (wipeE ρ vs) (L2.wipe σ vs) := (RE.nxh (K := KX X κ) x2 hsub (RE.wipe re1 vs)).nx x3
    unfold lcSI at h2
    refine ⟨κ', ds[i], wipeE ρ vs, S2, m2, rl3, re3, r3, ?_⟩
    cases e1 : g ds[i] (wipeE ρ vs) S2 with
    | st => simp only [e1] at h2 <;> exact h2.elim
    | ex _ _ => simp only [e1] at h2 <;> exact h2.elim
    | ok ρ4 S4 =>
      simp only [e1] at h2
      intro σ4 H4 m4 x4 rl4 re4 wp
      refine ⟨wp.trans (wipe_wipe σ vs (fun _ z => z)), κ', ρ4, S4, m4, rl4, re4, ?_⟩
      cases e2 : c ρ4 S4 with
      | st => simp only [e2] at h2 <;> exact h2.elim
      | ex _ _ => simp only [e2] at h2 <;> exact h2.elim
      | ok b S5 =>
        intro b' H5 m5 x5 rl5 eb
        have eb : b = b' := eb
        subst eb
        have x25 := x3.trans (x4.trans x5)
        cases b with
        | true =>
          simp only [e2] at h2
          rw [if_pos rfl]
          refine ⟨κ', ρ4, S5, m5, rl5, re4.nx x5, ?_⟩
          cases e3 : f ρ4 S5 with
          | st => simp only [e3] at h2 <;> exact h2.elim
          | ex _ _ => simp only [e3] at h2 <;> exact h2.elim
          | ok y5 S6 =>
            simp only [e3] at h2
            split at h2
            · rename_i _ k Sz ez
              cases ez
              intro v6 H6 m6 x6 rl6 r6
              by_cases hk : acc.length + 1 < 64 ∧ chk S6
              · rw [if_pos hk] at h2
                have x27 := x25.trans x6
                have eL6 : H6 L = some (at_ acc) := (x27.hid L hL').trans eL
                refine ⟨k, _, acc.length, RD.int r6, eL6, Nat.lt_of_lt_of_le hk.1 scanBound_64, hlt, S6, m6, addS acc k, ?_, rl6.hidw hL' trivial, hk.2, ?_, addS_nodup nd, ?_, h2⟩
                · exact Nx.hidw (x2.hidden (h' := κ') x27 (fun a z => .inl z) hsub) hL ⟨_, eL6, trivial⟩ hnk
                · rw [upd_same]
                  show some (SetO X.w L _ _) = some (SetO X.w L _ _)
                  have f1 : withI (fun j => decide (j ∈ acc)) k = fun j => decide (j ∈ addS acc k) := by
                    funext j
                    simp only [withI, mem_addS, Bool.decide_or]
                  have f2 : numI (fun j => decide (j ∈ acc)) k acc.length = (addS acc k).length := by
                    simp only [numI, addS, decide_eq_true_eq]
                    split <;> simp
                  rw [f1, f2]
                · unfold addS
                  split
                  · omega
                  · rw [List.length_append, List.length_singleton]; exact hk.1
              · rw [if_neg hk] at h2 <;> exact h2.elim
            · exact h2.elim
        | false =>
          simp only [e2] at h2
          rw [if_neg Bool.false_ne_true]
          by_cases hk : chk S5
          · rw [if_pos hk] at h2
            refine ⟨hlt, S5, m5, acc, x2.hidden (h' := κ') x25 (fun a z => .inl z) hsub, rl5, hk, (x25.hid L hL').trans eL, nd, l64, h2⟩
          · rw [if_neg hk] at h2 <;> exact h2.elim
  · have e0 : ds.drop i = [] := List.drop_eq_nil_of_le (Nat.le_of_not_lt hlt)
    rw [e0] at h2
    refine .inl ⟨iok.stop κ' m2 S2 H2 i hsub x2 rl2 ck (Nat.le_of_not_lt hlt), ?_⟩
    refine ⟨L, _, acc.length, rfl, eL, l64, fun ns p hs hm hl hp => ?_⟩
    have en : ns = srtI acc := sorted_one hs (srtI_sorted nd) fun j => by rw [hm, mem_srtI]; exact decide_eq_true_iff
    subst en
    have rl3 : Rl (KX X κ) m2 S2 H2 := Rl.unh (K := KX X κ') (h' := κ) (fun a z => .inl z) rl2
    have hpm : ¬ lv (KX X κ) m2 S2 p := by
      rintro (z | ⟨k, o, z1, z2, z3⟩)
      · obtain ⟨u, e, _⟩ := (rl3.hid p z).2
        rw [hp] at e; cases e
      · obtain ⟨u, e⟩ := rl3.in_some (List.mem_of_getElem? z1)
        rw [hp] at e; cases e
    refine h2 (.ref p) _ m2 (x2.trans (Nx.new rl3 hp)) (Rl.new rl3 hp) ?_
    show RP _ _ _ _ _
    rw [RP]
    refine ⟨p, _, rfl, upd_same, hpm, ?_⟩
    rw [RPs_iff]
    generalize upd H2 p _ = Hz
    generalize srtI acc = l
    induction l with
    | nil => exact .nil
    | cons k l ih => exact .cons (by rw [RP]) ih
theorem de_srtI {elt tg iter : Expr} {ifs : List Expr} {scope : Scope} {own : List (Str × Nat)} {fi : Env → Sto → Rs IDt} {g : GD} {c : BD} {f : ED} {pos p cpos : Pos} (hc : X.calm = true) (hN : X.N.Nodup) (hl : Gl X "sorted") (hm : X.mg "sorted" = none) (hi : DI X W tg iter fi) (ok : BlkOk X.N X.env.scope scope own)
    (hg : ∀ (s : Shared) (H : Hp) (C : Addr) (cl : List (Str × Addr)) (fp : List Addr), DGw (X.blk s H scope (compEnvC scope cl C X.env) fp) tg (own.map fun x => x.2) g)
    (ht : ∀ (s : Shared) (H : Hp) (C : Addr) (cl : List (Str × Addr)) (fp : List Addr), DTs (X.blk s H scope (compEnvC scope cl C X.env) fp) (fun _ _ _ _ => False) ifs c)
    (he : ∀ (s : Shared) (H : Hp) (C : Addr) (cl : List (Str × Addr)) (fp : List Addr), DE (X.blk s H scope (compEnvC scope cl C X.env) fp) (fun _ _ _ _ => False) elt f)
    (hs : ∀ x, foldedSetIterable iter X.env x = pure x := by intro _; rfl)
    (hst : starEach [.SetComp elt [⟨tg, iter, ifs, 0⟩] scope pos] X.env = (false, eval (.SetComp elt [⟨tg, iter, ifs, 0⟩] scope pos) X.env) :: starEach [] X.env := by rfl) :
    DE X W (.Call (.Name "sorted" p) [.SetComp elt [⟨tg, iter, ifs, 0⟩] scope pos] [] cpos) (eSrtI fi g c f (own.map fun x => x.2)) := by
  obtain ⟨wi, pi, ii⟩ := hi
  have q := @pe_setI X elt tg iter ifs scope own pos wi (canG X (List.map (fun (x : Str × Nat) => x.2) own) g) (can X (fun _ _ _ _ => False) RB c) (can X (fun _ _ _ _ => False) RD f) hc hN pi ok (fun s H C cl fp => (hg s H C cl fp).run) (fun s H C cl fp => (ht s H C cl fp).run) (fun s H C cl fp => (he s H C cl fp).can) hs
  exact ⟨_, pe_callB (cr_sortedSet hc) hl hm (by decide +kernel) (pa_cons q pa_nil hst) (by decide) (by decide) hst rfl, imp_srtI ii⟩
end
end DL

/-! all words that come out step by step, told at once -/
namespace DL
open PySem PySem.Spec PyProof.Rows L2
theorem mSet0 {α : Type} {x a : α} {xs : List α} : (x :: xs).set 0 a = a :: xs := List.set_cons_zero
theorem mSet1 {α : Type} {x a : α} {xs : List α} {n : Nat} : (x :: xs).set (n + 1) a = x :: xs.set n a := List.set_cons_succ
theorem mGet0 {α : Type} {a : α} {l : List α} : (a :: l)[0]? = some a := List.getElem?_cons_zero
theorem mGet1 {α : Type} {a : α} {l : List α} {n : Nat} : (a :: l)[n + 1]? = l[n]? := List.getElem?_cons_succ
theorem mJoin {α : Type} {o : Option α} : (some o).join = o := Option.join_some
theorem mMap {α β : Type} {f : α → β} {a : α} : (some a).map f = some (f a) := Option.map_some a f
theorem mBind {α β : Type} {f : α → Option β} {a : α} : (some a).bind f = f a := Option.bind_some a f
theorem mLen1 {α : Type} {a : α} {l : List α} : (a :: l).length = l.length + 1 := List.length_cons
theorem mLen0 {α : Type} : ([] : List α).length = 0 := List.length_nil
theorem mSome {α : Type} {a : α} : (some a).isSome = true := Option.isSome_some
theorem mNil {α : Type} {l : List α} : l ++ [] = l := List.append_nil l
theorem mIt1 {α : Type} {a b : α} {h : Decidable True} : (if True then a else b) = a := if_true a b
theorem mIt0 {α : Type} {a b : α} {h : Decidable False} : (if False then a else b) = b := if_false a b
theorem mIp1 {a b : Prop} {h : Decidable True} : (if True then a else b) = a := if_true a b
theorem mIp0 {a b : Prop} {h : Decidable False} : (if False then a else b) = b := if_false a b
def wqm := And.intro @mSet0 (And.intro @mSet1 (And.intro @mGet0 (And.intro @mGet1 (And.intro @mJoin (And.intro @mMap (And.intro @mBind (And.intro @mLen1 (And.intro @mLen0 (And.intro @mSome (And.intro @mNil (And.intro @mIt1 (And.intro @mIt0 (And.intro @mIp1 @mIp0)))))))))))))
def wq0 := And.intro @WE_ok (And.intro @WE_bind (And.intro @WE_ite (And.intro @WE_no (And.intro @WS_nx (And.intro @WS_rt (And.intro @WS_bk (@WS_ct)))))))
def wq1 := And.intro @WS_lift (And.intro @WS_seq (And.intro @WS_ite (And.intro @oRs_some (And.intro @eVar_ap (And.intro @eC_ap (And.intro @eBin_ap (@isB_bl)))))))
def wq2 := And.intro @asB_ap (And.intro @bAnd_ap (And.intro @bOr_ap (And.intro @bNot_ap (And.intro @bTru_ap (And.intro @eAnd_wp (And.intro @eOr_wp (@eNot_wp)))))))
def wq3 := And.intro @andR_bl (And.intro @orR_bl (And.intro @notR_bl (And.intro @decide_eq_true_eq (And.intro @gAny_lst (And.intro @gAll_lst (And.intro @gSum_lst (@chkOf_p)))))))
def wq4 := And.intro @lItems_lst (And.intro @eNeg_ap (And.intro @eIf_ap (And.intro @aNil_ap (And.intro @aCons_ap (And.intro @eTup_ap (And.intro @eLst_ap (@eLstO_ap)))))))
def wq5 := And.intro @eB_ap (And.intro @eCall_ap (And.intro @eMth_ap (And.intro @eIsi_ap (And.intro @eSl_ap (And.intro @oNone_ap (And.intro @oSome_ap (@eLc_ap)))))))
def wq6 := And.intro @sSeq_ap (And.intro @sNil_ap (And.intro @sBrk_ap (And.intro @sCnt_ap (And.intro @sExpr_ap (And.intro @rtO_some (And.intro @sRetR_ap (@sRetN_ap)))))))
def wq7 := And.intro @sIf_ap (And.intro @sSet_ap (And.intro @nxG_ok (And.intro @sAsg_ap (And.intro @sAug_ap (And.intro @gNm_ap (And.intro @iRgA_ap (@iRgB_ap)))))))
def wq8 := And.intro @iTpl_ap (And.intro @iLst_ap (And.intro @restD_p' (And.intro @restAll_nil (And.intro @restAll_cons (And.intro @gAdd_int (And.intro @gAdd_str (@gAdd_tup)))))))
def wq9 := And.intro @gAdd_lst (And.intro @gAddI_int (And.intro @gSub_int (And.intro @gMul_int (And.intro @gMod_int (And.intro @gFdv_int (And.intro @gPow_int (@gLt_int)))))))
def wq10 := And.intro @gLe_int (And.intro @gGt_int (And.intro @gGe_int (And.intro @gEq_int (And.intro @gEq_str (And.intro @gEq_bl (And.intro @atI_nat' (@atI_0)))))))
def wq11 := And.intro @atI_1 (And.intro @atI_2 (And.intro @atI_3 (And.intro @atI_4 (And.intro @atI_5 (And.intro @gIx_tup (And.intro @gIx_lst (@gIx_scr)))))))
def wq12 := And.intro @gIx_ob (And.intro @obL_lst (And.intro @obL_fz (And.intro @gLen_tup (And.intro @gLen_lst (And.intro @gLen_scr (And.intro @gLen_ob (@gToInt_int)))))))
def wq13 := And.intro @gToInt_bl (And.intro @gToStr_int (And.intro @truD_bl (And.intro @gMin2_int (And.intro @gMax2_int (And.intro @isLst_ob (And.intro @isLst_lst (@obO_lst)))))))
def wq14 := And.intro @oLst_ob (And.intro @appO_some (And.intro @gApp_ap (And.intro @gSetL_ap (And.intro @okE_some (And.intro @setL_ob (And.intro @ixN_0 (@ixN_1)))))))
def wq15 := And.intro @sizeLine_val (And.intro @rngL_length (And.intro @Bool.false_eq_true (And.intro @Bool.false_xor (And.intro @Bool.true_xor (And.intro @and_self (And.intro @Bool.not_true (@Bool.not_false)))))))
def wq16 := And.intro @bYes_ap (And.intro @gIsN_ap (And.intro @isNoneD_int (And.intro @isNoneD_none (@Bool.not_not))))
def wpW := And.intro wqm (And.intro wq0 (And.intro wq1 (And.intro wq2 (And.intro wq3 (And.intro wq4 (And.intro wq5 (And.intro wq6 (And.intro wq7 (And.intro wq8 (And.intro wq9 (And.intro wq10 (And.intro wq11 (And.intro wq12 (And.intro wq13 (And.intro wq14 (And.intro wq15 (wq16)))))))))))))))))
end DL

/-! is True, is False -/
namespace DL
open PySem PySem.Spec PyProof.Rows L2
section
variable {X : Cx} {W : WX} {m : List Addr} {S : Sto} {H : Hp} {σ : St} {κ : Addr → Prop}
def gIsA (neg : Bool) : D → D → Sto → Rs D := fun x y S => match x, y with
  | .p a, .p .none => .ok (.bl (neg ^^ isNoneD a)) S
  | .p (.bool a), .p (.bool b) => .ok (.bl (neg ^^ decide (a = b))) S
  | _, _ => .st
theorem od_isA : OpD X W (compareOp .Is) (gIsA false) := by
  refine ⟨_, OpR.or op_isN op_is_bl, fun κ x y vx vy m S H σ Q rl rx ry h => ?_⟩
  unfold gIsA at h
  split at h
  · exact .inl ⟨ry.non, by rw [isN_of rx]; exact h.ok' .refl rl (by rw [Bool.false_xor]; exact RD.bl_)⟩
  · exact .inr ⟨_, _, rx.bl, ry.bl, h.ok' .refl rl (by rw [Bool.false_xor]; exact RD.bl_)⟩
  · exact h.elim
theorem od_isnotA : OpD X W (compareOp .IsNot) (gIsA true) := by
  refine ⟨_, OpR.or op_notN op_isnot_bl, fun κ x y vx vy m S H σ Q rl rx ry h => ?_⟩
  unfold gIsA at h
  split at h
  · exact .inl ⟨ry.non, by rw [isN_of rx]; exact h.ok' .refl rl (by rw [Bool.true_xor]; exact RD.bl_)⟩
  · exact .inr ⟨_, _, rx.bl, ry.bl, h.ok' .refl rl (by rw [Bool.true_xor]; exact RD.bl_)⟩
  · exact h.elim
theorem gIsA_bl {neg a b : Bool} {S : Sto} : gIsA neg (.p (.bool a)) (.p (.bool b)) S = .ok (.bl (neg ^^ decide (a = b))) S := rfl
end
end DL

/-! repr of data, where nothing is under way; the law's own call from the top -/
namespace DL
open PySem PySem.Spec PyProof.Rows L2
section
variable {X : Cx} {W : WX} {m m1 : List Addr} {S S1 : Sto} {H H1 : Hp} {σ : St} {ρ : Env} {κ : Addr → Prop}
def boxD : PyData → Bool
  | .tuple _ => true
  | .list _ => true
  | _ => false
theorem call_reprD (hg : X.A.guards = some []) (hu : X.A.units + 66 < cLine) : CallR X (.builtin "repr") (fun xs H Q => ∃ d v, xs = [v] ∧ Dp X.K H v d ∧ boxD d = true ∧ d.showable = true ∧ d.hasDict = false ∧ d.depth ≤ 64 ∧ d.shown.length ≤ sizeLine ∧ Q (.str d.shown) H) := by
  intro pins s σ H xs us Q I r h
  obtain ⟨d, v, rfl, hd, hb, h1, h2, h3, h4, q⟩ := h
  cases r with
  | cons r rt =>
  cases rt
  rename_i u
  obtain ⟨as, rd⟩ := Dp.reads I d v u hd r
  have key : ∀ {a : Addr}, Reads s.heap (.ref a) d as → wpAny (model X.prog X.w) X.A (call (.builtin "repr") [.ref a]) (EP X pins σ Q) X.xe s := fun {a} rd => by
    refine repr_of_reads' rd h1 (fun e => by rw [h2] at e; cases e) hg (by omega) (fun _ _ e => e) (fun h' u tk hk => ?_) h4
    exact ⟨.str _, H, I.call (t' := tk) (ch := []) (Un.kept hk) (I.hok.kept hk) I.bare (fun _ z => nomatch z), ⟨_, rfl⟩, q⟩
  cases hd <;> first
    | (cases hb; done)
    | skip
  all_goals
    cases r
    exact key rd
end
end DL
namespace DL
open PySem PySem.Spec PyProof.Rows L2
section
variable {X : Cx} {W : WX} {m m1 : List Addr} {S S1 : Sto} {H H1 : Hp} {σ : St} {ρ : Env} {κ : Addr → Prop}
open Classical in
noncomputable def gReprA : FD := fun ds S => match ds with
  | [x] => (match pNow S x with
    | some d => if boxD d = true then (if d.showable = true ∧ d.hasDict = false ∧ d.depth ≤ 64 ∧ d.shown.length ≤ sizeLine then .ok (.str d.shown) S else .st) else gRepr [x] S
    | none => .st)
  | _ => .st
theorem call_or {id : Value} {r r' : List V → Hp → VK → Prop} (h : CallR X id r) (h' : CallR X id r') : CallR X id (fun xs H Q => r xs H Q ∨ r' xs H Q) := by
  intro pins s σ H xs us Q I rv hq
  rcases hq with hq | hq
  · exact h pins s σ H xs us Q I rv hq
  · exact h' pins s σ H xs us Q I rv hq
theorem cd_reprA (hg : X.A.guards = some []) (hu : X.A.units + 66 < cLine) : CD X W (.builtin "repr") gReprA := by
  obtain ⟨r, hr, h0⟩ := cd_repr (X := X) (W := W)
  refine ⟨_, call_or hr (call_reprD hg hu), fun κ ds vs m S H σ Q rl rd h => ?_⟩
  unfold gReprA at h
  split at h
  · split at h
    · rename_i x d ed
      split at h
      · rename_i hb
        split at h
        · rename_i hs
          obtain ⟨v, rfl, r⟩ := RDs1 rd
          exact .inr ⟨d, v, rfl, r.now rl ed, hb, hs.1, hs.2.1, hs.2.2.1, hs.2.2.2, h.ok' .refl rl RD.str_⟩
        · exact h.elim
      · exact .inl (h0 κ _ vs m S H σ Q rl rd h)
    · exact h.elim
  · exact h.elim
end
/-! ### the law, called from the top -/
section
variable {P : Program} {w : World} {K : PySem.W.Frag} {mg mb : Str → Option Value} {fa a : Addr} {s₁ : Shared} {vs : List Value} {ns : List Int}
/-- nothing but the script is told of, and it is none of the module's own things -/
structure Lone (P : Program) (w : World) (K : PySem.W.Frag) (s₁ : Shared) (a : Addr) (ns : List Int) (H : Hp) : Prop where
  only : Only H
  seq : SqL K H a (ns.map V.int)
  ok : HOk P w H s₁.heap
  at_ : ∀ b u, H b = some u → b = a ∧ K.lookup a = none
theorem lone_of (KX : K.In s₁.heap) (ha : s₁.heap.get? a = some { cls := .type "list", data := .seq vs.toArray }) (hi : IntsAre vs ns) (hl : ns.length ≤ sizeLine) : ∃ H, Lone P w K s₁ a ns H := by
  have lv := hi.length
  have rv := vals_ints hi
  cases ek : K.lookup a with
  | some o =>
    have eo := KX a o ek
    rw [ha] at eo
    obtain rfl := Option.some.inj eo
    refine ⟨fun _ => none, fun _ => .inl rfl, .inr ⟨_, vs.toArray, _, ek, rfl, rfl, rfl, ?_, by simpa using rv⟩, fun b u z => (by cases (show (none : Option HO) = some u from z)), fun b u z => (by cases (show (none : Option HO) = some u from z))⟩
    rw [List.size_toArray, lv]
    exact hl
  | none =>
    let Hs : Hp := upd (fun _ => none) a (.frz { cls := .type "list", data := .seq vs.toArray } (.lst (ns.map V.int)))
    have hs : ∀ b u, Hs b = some u → b = a := fun b u z => by
      by_cases e : b = a
      · exact e
      · rw [show Hs b = none from upd_ne e] at z; cases z
    have hsa : Hs a = some (.frz { cls := .type "list", data := .seq vs.toArray } (.lst (ns.map V.int))) := upd_same
    refine ⟨Hs, fun b => ?_, .inl (.inr ⟨_, hsa⟩), fun b u z => ?_, fun b u z => ⟨hs b u z, ek⟩⟩
    · cases eb : Hs b with
      | none => exact .inl rfl
      | some u =>
        have e := hs b u eb
        subst e
        rw [hsa] at eb
        exact .inr ⟨_, _, eb.symm⟩
    · have e := hs b u z
      subst e
      rw [hsa] at z
      obtain rfl := Option.some.inj z
      exact ⟨ha, by rw [List.length_map]; exact hl, vs, _, rv, ha⟩
theorem lone_env {H : Hp} (L : Lone P w K s₁ a ns H) (KX : K.In s₁.heap) (hns : s₁.heap.Ns mainGlobals mg) (hb : s₁.heap.Ns builtinsNs mb) (hbb : ∀ x : Str, x ≠ "__name__" → mb x = bootBuiltins x) (hlim : s₁.heap.NoLimit) (hg : s₁.gens = #[])
    (ha : s₁.heap.get? a = some { cls := .type "list", data := .seq vs.toArray }) : K.In (hidT s₁.heap H) ∧ (hidT s₁.heap H).Ns mainGlobals mg ∧ Env0 P w K mg (hidT s₁.heap H) callerA [] s₁ H := by
  have shown : ∀ {b : Addr} {o : Obj}, s₁.heap.get? b = some o → H b = none → (hidT s₁.heap H).get? b = some o := fun e z => hidT_get e z
  have nodict : ∀ {b : Addr} {o : Obj} {es : Array DictEntry} {ep : Nat}, s₁.heap.get? b = some o → o.data = .dict es ep → H b = none := by
    intro b o es ep e ed
    cases eb : H b with
    | none => rfl
    | some u =>
      obtain ⟨rfl, _⟩ := L.at_ b u eb
      rw [ha] at e
      obtain rfl := Option.some.inj e
      cases (show Data.seq vs.toArray _ = Data.dict es ep from ed)
  have spaces : ∀ {b : Addr} {mm : Str → Option Value}, s₁.heap.Ns b mm → (hidT s₁.heap H).Ns b mm := by
    rintro b mm ⟨o, es, ep, e, ed, r⟩
    exact ⟨o, es, ep, shown e (nodict e ed), ed, r⟩
  have inK : K.In (hidT s₁.heap H) := by
    intro b o e
    refine shown (KX b o e) ?_
    cases eb : H b with
    | none => rfl
    | some u =>
      obtain ⟨rfl, z⟩ := L.at_ b u eb
      rw [z] at e
      cases e
  obtain ⟨mc, l1, l2⟩ := hlim
  have e0 : Env0 P w K mg (hidT s₁.heap H) callerA [] s₁ H := ⟨rfl, ⟨inK, spaces hns, ⟨mb, spaces hb, hbb⟩, ⟨mc, spaces l1, l2⟩⟩, fun b o e => of_hidT e, Nat.le_of_eq (hidT_size _ _), trivial, fun b z => absurd (show b ∈ ([] : List Addr) from z) (by simp), L.ok, .of_eq hg⟩
  exact ⟨inK, spaces hns, e0⟩
theorem law_runs {sp : Sp} (KX : K.In s₁.heap) (hns : s₁.heap.Ns mainGlobals mg) (hb : s₁.heap.Ns builtinsNs mb) (hbb : ∀ x : Str, x ≠ "__name__" → mb x = bootBuiltins x) (hlim : s₁.heap.NoLimit) (hg : s₁.gens = #[])
    (ha : s₁.heap.get? a = some { cls := .type "list", data := .seq vs.toArray }) (hi : IntsAre vs ns) (hl : ns.length ≤ sizeLine)
    (run : ∀ (base : Heap) (H : Hp) (Q : VK) (E : XK), K.In base → base.Ns mainGlobals mg → Env0 P w K mg base callerA [] s₁ H → sp [.ref a] H Q E → codeAny (model P w) callerA (.call (.ref fa) ⟨[.ref a], []⟩) (CR CX0 [] P w H s₁ Q E) s₁)
    (hsp : ∀ H : Hp, Only H → SqL K H a (ns.map V.int) → sp [.ref a] H (fun v _ => v = .bl true) fun _ _ _ => False) :
    codeAny (model P w) callerA (.call (.ref fa) ⟨[.ref a], []⟩) (fun r s' => r = .ok (.ret (.bool true)) ∧ OldK s₁.heap s'.heap ∧ s'.os = s₁.os ∧ AllBare s'.gens) s₁ := by
  obtain ⟨H, L⟩ := lone_of (P := P) (w := w) KX ha hi hl
  obtain ⟨k1, k2, e0⟩ := lone_env L KX hns hb hbb hlim hg ha
  refine codeAny_mono (run _ H _ _ k1 k2 e0 (hsp H L.only L.seq)) fun r s' h => ?_
  match r, h with
  | .error e, h => exact h.elim
  | .ok .next, h => exact h.elim
  | .ok .brk, h => exact h.elim
  | .ok .cont, h => exact h.elim
  | .ok (.ret u), h =>
    obtain ⟨v, H', os, bare, un, ok', ru, ev⟩ := h
    have ev : v = .bl true := ev
    subst ev
    have eu : u = Value.bool true := ru
    subst eu
    refine ⟨rfl, OldK.of_keep fun b o e => ?_, os, bare⟩
    cases eb : H b with
    | none => exact un.keep b o e eb (fun z => absurd (show b ∈ ([] : List Addr) from z) (by simp)) (by simp)
    | some u =>
      rcases L.only b with z | ⟨ob, xs, z⟩
      · rw [eb] at z; cases z
      · obtain ⟨e1, _⟩ := L.ok b _ z
        obtain ⟨e2, _⟩ := ok' b _ (un.frzs b ob _ z)
        rw [e] at e1
        obtain rfl := Option.some.inj e1
        exact e2
/-- a def, called where no repr is under way -/
theorem run_at {base : Heap} {x : Str} {st : Stmt} {f : Addr} {fd : FuncData} {N ps : List Str} {k n : Nat} {F : SD} {A : Around} {outer : List PySem.Env} {s : Shared} {H : Hp} {args : Args} {us : List Value} {zs : List V} {Q : VK} {E : XK}
    (Fu : FunS K x st f fd) (Sc : FnScope N ps (defScope st)) (hr : Room (k + 1) A) (hgd : A.guards = some [])
    (body : ∀ (cdv : Value) (A : Around) (outer : List PySem.Env) (s : Shared) (H : Hp) (E : XK), Room k (A.deeper (envOfC x (defScope st) s.heap.objs.size f cdv)) → (A.deeper (envOfC x (defScope st) s.heap.objs.size f cdv)).guards = some [] →
      DSs (cxOf CX0 P w K mg base N x (defScope st) f cdv A outer s H E).nox (fun _ _ _ _ => False) (defBody st) F)
    (hn : ps.length = n) (e0 : Env0 P w K mg base A outer s H) (hb : BindsTo s fd args (ps.zip us)) (rv : Vals zs us) (hsp : spOf K mg n (fun ds S => noEx (gB N F ds S)) zs H Q E) :
    codeAny (model P w) A (.call (.ref f) args) (CR CX0 outer P w H s Q E) s := by
  obtain ⟨oc, od, dV, kV, doc, pm, an, cdv, ct, osl, rfl, lk, hcd, _, _⟩ := Fu.ex
  have hl : zs.length = ps.length := hsp.1.trans hn.symm
  have inS : K.In s.heap := e0.mod.kin.keeps fun b o e => (e0.bs b o e).1
  have room : s.heap.NoLimit := e0.mod.nolimit.keeps fun b o e => (e0.bs b o e).1
  have kinds : ∀ y ∈ ps.zip us, (defScope st).names.lookup y.1 = some .local ∨ ((defScope st).names.lookup y.1 = some .cell ∧ ((cellsFrom (s.heap.objs.size + 1) (defScope st).names []).lookup y.1).isSome = true) := by
    rintro ⟨y, v⟩ hy
    exact (Sc.par y (List.of_mem_zip hy).1).imp id fun q => ⟨q, PySem.W.cellsFrom_some _ _ _ (.inl q)⟩
  refine codeAny_call_function hr.depth (inS _ _ lk) rfl Sc.co Sc.gen rfl (PySem.W.codeRec_of inS hcd) (hb _ _ _ _ (wpAny_newFunctionEnv_cells Sc.kind kinds fun env he t1 laid => ?_))
  subst he
  refine ⟨room.keeps laid.toInCall.keep, codeAny_func ?_⟩
  obtain ⟨hl2, κ, ds, S, m, rl, rd, po⟩ := hsp
  obtain ⟨t, pt, it⟩ := body cdv A outer s H E (hr.deeper _) hgd
  have start := inv_start (CX := CX0) (E := E) Sc hr.hd e0 hl rv laid
  have entry : t { nx := fun _ H' => Q .non H', rt := Q } (L2.start N zs) H := by
    refine it κ (start0 N ds) S (L2.start N zs) H m _ rl (RE_start rd) (post_of (E := fun _ _ _ => False) rl (gB_dn N F ds S) ?_ (fun _ _ _ _ z => z))
    have po : PostF ⟨K, κ, mg⟩ mg m S H (noEx (gB N F ds S)) Q E := po
    cases e : gB N F ds S with
    | st => rw [e] at po; exact po.elim
    | ok d S' => rw [e] at po; exact po
    | ex y S' => rw [e] at po; exact po.elim
  have told : ∀ {σ' : L2.St} {H' : Hp} {v : V} {u : Value} {s' : Shared}, Inv (cxOf CX0 P w K mg base N x (defScope st) f cdv A outer s H E) [] σ' H' s' → RelV v u → Q v H' → CE outer P w H s Q u s' :=
    fun {σ' H' v u s'} J rv q => ⟨v, H', J.os, J.bare, J.base, J.hok, rv, q⟩
  refine wpAny_mono (pt.nox.run [] t1 (L2.start N zs) H _ start entry) (fun fl s' hs => ?_) fun e s' hs => hs
  match fl, hs with
  | .ret u, hs => exact let ⟨v, σ', H', J, rv, q⟩ := hs; told J rv q
  | .next, hs => exact let ⟨σ', H', J, q⟩ := hs; told (v := V.non) (u := Value.none) J rfl q
  | .brk, hs => exact let ⟨_, _, _, q⟩ := hs; False.elim q
  | .cont, hs => exact let ⟨_, _, _, q⟩ := hs; False.elim q
/-- the law's walk, its def at the top -/
theorem walk_at {l : PySem.W.OpenLaw} {n k : Nat} {q : Program} {loose : List Str} {XP : (Str → Option Value) → Heap → Prop} {YP : World → Heap → Prop} {d : DefRec} {x : Str}
    (hn : l.most = some n) (hn2 : n ≤ sizeLine) (hdf : d.params.defaults = [])
    (F : ∀ (w : World) (mg : Str → Option Value) (fa : Addr) (h : Heap), YP w h → h.Ns mainGlobals mg → mg d.name = some (.ref fa) →
      ∃ (K : PySem.W.Frag) (sp : Sp), K.In h ∧
        (∀ (H : Hp) (a : Addr) (ns : List Int), ns.length ≤ n → Only H → SqL K H a (ns.map V.int) → sp [.ref a] H (fun v _ => v = .bl true) fun _ _ _ => False) ∧
        ∀ (base : Heap) (s : Shared) (H : Hp) (a : Addr) (Q : VK) (E : XK), K.In base → base.Ns mainGlobals mg → Env0 l.prog w K mg base callerA [] s H → sp [.ref a] H Q E → codeAny (model l.prog w) callerA (.call (.ref fa) ⟨[.ref a], []⟩) (CR CX0 [] l.prog w H s Q E) s) :
    PySem.W.WalkO q loose XP YP l.row.toRowW d [] (fun f vs => PySem.call f vs) := by
  refine Att.attach_call hn hdf fun w s₀ s₁ mg mb fa o pm cd doc a vs ns G Y ho hd hcd hmg hobj hints hlen hg => ?_
  obtain ⟨K, sp, KX, hsp, run⟩ := F w mg fa _ Y G.T.g hmg
  exact law_runs KX G.T.g G.T.b G.T.builtins G.T.nolimit hg hobj hints (Nat.le_trans hlen hn2) (fun base H Q E k1 k2 e0 h => run base s₁ H a Q E k1 k2 e0 h) fun H hO hS => hsp H a ns hlen hO hS
end
end DL

/-! while -/
namespace DL
open PySem PySem.Spec PyProof.Rows L2
section
variable {X : Cx} {W : WX} {pos : Pos}
noncomputable def whileL (c : BD) (body : SD) : Nat → Env → Sto → Out
  | 0, _, _ => .st
  | n + 1, ρ, S => liftS ρ (c ρ S) fun b S1 => if b = true then (match body ρ S1 with
    | .nx ρ2 S2 => whileL c body n ρ2 S2
    | .ct ρ2 S2 => whileL c body n ρ2 S2
    | .bk ρ2 S2 => .nx ρ2 S2
    | o => o) else .nx ρ S1
noncomputable def sWhile (n : Nat) (c : BD) (body : SD) : SD := fun ρ S => whileL c body n ρ S
theorem ds_while {c : Expr} {body : List Stmt} {ba : BD} {fb : SD} {n : Nat} (hp : PassesOwn (model X.prog X.w) X.A X.env X.xe) (hc : DT X W c ba) (hb : DSs X W body fb) : DS X W (.While c body [] pos) (sWhile n ba fb) := by
  obtain ⟨tc, pc, ic⟩ := hc
  obtain ⟨tb, pb, ib⟩ := hb
  refine ⟨_, ps_while hp pc pb, fun κ ρ S σ H m Dn rl re h => ?_⟩
  refine ⟨fun k σ' H' => ∃ ρ' S' m', Nx (KX X κ) m S H m' S' H' ∧ Rl (KX X κ) m' S' H' ∧ RE (KX X κ) m' S' H' ρ' σ' ∧ PostS X κ W m' S' H' (whileL ba fb k ρ' S') Dn, ⟨n, ρ, S, m, .refl, rl, re, h⟩, ?_⟩
  rintro k σ2 H2 ⟨ρ2, S2, m2, x2, rl2, re2, h2⟩
  cases k with
  | zero => exact h2.elim
  | succ k =>
    unfold whileL at h2
    refine ic.seqS rl2 re2 h2 fun d S3 v H3 m3 x3 rl3 re3 r3 h3 => ?_
    have r3 : d = v := r3
    subst r3
    cases d with
    | false =>
      rw [if_neg Bool.false_ne_true]
      rw [if_neg Bool.false_ne_true] at h3
      exact h3 σ2 H3 m3 .refl rl3 re3
    | true =>
      rw [if_pos rfl]
      rw [if_pos rfl] at h3
      refine ⟨fun σ' H' => ∃ ρ' S' m', Nx (KX X κ) m S H m' S' H' ∧ Rl (KX X κ) m' S' H' ∧ RE (KX X κ) m' S' H' ρ' σ' ∧ PostS X κ W m' S' H' (whileL ba fb k ρ' S') Dn, fun σ' H' z => ⟨k, Nat.lt_succ_self k, z⟩, ?_⟩
      refine ib κ ρ2 S3 σ2 H3 m3 _ rl3 re3 ?_
      have x23 := x2.trans x3
      cases e2 : fb ρ2 S3 with
      | st => simp only [e2] at h3; exact h3.elim
      | nx ρ5 S5 =>
        simp only [e2] at h3
        intro σ5 H5 m5 x5 rl5 re5
        exact ⟨ρ5, S5, m5, x23.trans x5, rl5, re5, PostS.nx x5 h3⟩
      | ct ρ5 S5 =>
        simp only [e2] at h3
        intro σ5 H5 m5 x5 rl5 re5
        exact ⟨ρ5, S5, m5, x23.trans x5, rl5, re5, PostS.nx x5 h3⟩
      | bk ρ5 S5 => simp only [e2] at h3; exact h3
      | rt d5 S5 => simp only [e2] at h3; exact h3
      | ex x5 ρ5 S5 => simp only [e2] at h3; exact h3
end
section
variable {P : Wn}
/-- an invariant that comes down -/
theorem WS_while {c : BD} {body : SD} (I : Nat → Env → Sto → Prop) (hs : ∀ k ρ S, I k ρ S → WE (c ρ S) (fun b S1 => if b = true then WS (body ρ S1) ⟨fun ρ S => ∃ k', k' < k ∧ I k' ρ S, P.rt, P.nx, fun ρ S => ∃ k', k' < k ∧ I k' ρ S, P.ex⟩ else P.nx ρ S1) (fun _ _ => False)) :
    ∀ (n k : Nat) (ρ : Env) (S : Sto), k < n → I k ρ S → WS (whileL c body n ρ S) P
  | 0, k, ρ, S, h, _ => absurd h (Nat.not_lt_zero k)
  | n + 1, k, ρ, S, h, hi => by
    have q := hs k ρ S hi
    unfold whileL
    cases e : c ρ S with
    | st => rw [e] at q; exact q.elim
    | ex x S1 => rw [e] at q; exact q.elim
    | ok b S1 =>
      rw [e] at q
      cases b with
      | false => exact q
      | true =>
        have q : WS (body ρ S1) _ := q
        show WS (match body ρ S1 with
          | .nx ρ2 S2 => whileL c body n ρ2 S2
          | .ct ρ2 S2 => whileL c body n ρ2 S2
          | .bk ρ2 S2 => .nx ρ2 S2
          | o => o) P
        cases e2 : body ρ S1 with
        | st => rw [e2] at q; exact q.elim
        | nx ρ2 S2 =>
          rw [e2] at q
          obtain ⟨k', hk, hi'⟩ := q
          exact WS_while I hs n k' ρ2 S2 (by omega) hi'
        | ct ρ2 S2 =>
          rw [e2] at q
          obtain ⟨k', hk, hi'⟩ := q
          exact WS_while I hs n k' ρ2 S2 (by omega) hi'
        | bk ρ2 S2 => rw [e2] at q; exact q
        | rt d2 S2 => rw [e2] at q; exact q
        | ex x ρ2 S2 => rw [e2] at q; exact q
theorem sWhile_ap {n : Nat} {c : BD} {body : SD} {ρ : Env} {S : Sto} : sWhile n c body ρ S = whileL c body n ρ S := rfl
end
section
variable {P : Program} {w : World} {K : PySem.W.Frag} {mg : Str → Option Value} {base : Heap}
/-- no word of a def that may raise -/
theorem fnN_st {x : Str} {st : Stmt} {f : Addr} {fd : FuncData} {ps : List Str} {k n : Nat} (Fu : FunS K x st f fd) (gm : mg x = some (.ref f)) (bd : BindsAs x st ps) (hn : ps.length = n) : FnN P w K mg base k x n (fun _ _ => .st) := by
  refine ⟨f, fd, ps, hn, gm, Fu.kp, Fu.bindsN bd, ⟨fun vs H Q E h => h.1.trans hn.symm, fun A outer s H ar us vs Q E hr e0 hb r h => ?_⟩⟩
  obtain ⟨_, _, _, _, _, _, _, po⟩ := h
  exact po.elim
end
end DL

/-! DLza: a short text many times -/
namespace DL
open PySem PySem.Spec PyProof.Rows L2
theorem op_mul_t {X : Cx} : OpR X (binaryOp .Mult) (fun x y H Q => ∃ (a : Str) (n : Int), x = .str a ∧ y = .int n ∧ a.length ≤ 16 ∧ -1048576 ≤ n ∧ n ≤ 1048576 ∧ Q (.str (Txt.mul a n)) H) := by
  intro pins s σ H x y v u Q I rx ry h
  obtain ⟨a, n, rfl, rfl, h1, h2, h3, q⟩ := h
  obtain ⟨t, rfl⟩ := rx
  obtain ⟨t', rfl⟩ := ry
  exact SB.mul (mulOk_of 16 1048576 h1 h3 (by omega) (by decide) (by decide)) fun t' k => ⟨.str (Txt.mul a n), H, I.tok _, ⟨_, rfl⟩, q⟩
def gMulT : D → D → Sto → Rs D := fun x y S => match x, y with
  | .p (.str a), .p (.int n) => if a.length ≤ 16 ∧ -1048576 ≤ n ∧ n ≤ 1048576 then .ok (.str (Txt.mul a n)) S else .st
  | _, _ => .st
theorem od_mulT {X : Cx} {W : WX} : OpD X W (binaryOp .Mult) gMulT := by
  refine ⟨_, op_mul_t, fun κ x y vx vy m S H σ Q rl rx ry h => ?_⟩
  unfold gMulT at h
  split at h
  · rename_i a n
    split at h
    · rename_i e
      exact ⟨a, n, rx.str, ry.int, e.1, e.2.1, e.2.2, h.ok' .refl rl RD.str_⟩
    · exact h.elim
  · exact h.elim
theorem foldl_rep (c : Nat) : ∀ (k : Nat) (acc : Array Nat), (List.replicate k #[c]).foldl (· ++ ·) acc = acc ++ (List.replicate k c).toArray
  | 0, acc => by simp
  | k + 1, acc => by
    rw [List.replicate_succ, List.foldl_cons, foldl_rep c k, List.replicate_succ, Array.append_assoc]
    congr 1
    apply Array.ext'
    simp
theorem mul_one (c n : Nat) : Txt.mul (SX.S [c]) (n : Int) = SX.S (List.replicate n c) := by
  unfold Txt.mul
  by_cases h1 : (n : Int) < 1
  · rw [if_pos h1]
    have : n = 0 := by omega
    subst this
    rfl
  rw [if_neg h1]
  have hl : (SX.S [c]).length = 1 := rfl
  by_cases h2 : n = 1
  · subst h2
    rfl
  rw [if_neg (by rw [hl]; simp; omega)]
  show (⟨(List.replicate (n : Int).toNat #[c]).foldl (· ++ ·) #[]⟩ : Str) = ⟨(List.replicate n c).toArray⟩
  rw [foldl_rep, Int.toNat_natCast]
  simp
theorem gMulT_one {c n : Nat} {S : Sto} (h : n ≤ 1048576) : gMulT (.p (.str (SX.S [c]))) (.p (.int (n : Int))) S = .ok (.str (SX.S (List.replicate n c))) S := by
  have e : gMulT (.p (.str (SX.S [c]))) (.p (.int (n : Int))) S = if (SX.S [c]).length ≤ 16 ∧ -1048576 ≤ (n : Int) ∧ (n : Int) ≤ 1048576 then .ok (.str (Txt.mul (SX.S [c]) (n : Int))) S else .st := rfl
  rw [e, if_pos ⟨by show 1 ≤ 16; decide, by omega, by omega⟩, mul_one]
end DL

/-! own classes: attributes, methods, instances made -/
namespace DL
open PySem PySem.Spec PyProof.Rows L2
section
variable {X : Cx} {W : WX} {m : List Addr} {S : Sto} {H : Hp}
def insO (c : Str) (S : Sto) : D → Option (List (Str × D))
  | .ob n => match S[n]? with
    | some (.ins c' fs) => if c' = c then some fs else none
    | _ => none
  | _ => none
theorem RD.ins {d : D} {v : V} {c : Str} {fs : List (Str × D)} (r : Rl (KX X κ) m S H) (h : RD (KX X κ) m S H d v) (e : insO c S d = some fs) : ∃ n a C dx ws, d = .ob n ∧ m[n]? = some a ∧ S[n]? = some (.ins c fs) ∧ v = .ref a ∧ X.mg c = some (.ref C) ∧ H a = some (.ins C dx ws) ∧ H dx = some (.own a) ∧ RFS (KX X κ) m S H fs ws := by
  unfold insO at e
  split at e
  · rename_i n
    split at e
    · rename_i c' fs' q
      split at e
      · rename_i hcc
        cases e
        subst hcc
        obtain ⟨a, em, rfl⟩ := h
        obtain ⟨C, dx, ws, hc, h1, ho, h2⟩ := r.obj n a _ em q
        exact ⟨n, a, C, dx, ws, rfl, em, q, rfl, hc, h1, ho, h2⟩
      · cases e
    · cases e
  · cases e
def fldD (fs : List (Str × D)) (f : Str) : Option D := fs.lookup f
theorem fld_pair {fs : List (Str × D)} {ws : List (Str × V)} (h : RFS (KX X κ) m S H fs ws) (f : Str) : (fs.lookup f = none ∧ ws.lookup f = none) ∨ ∃ d v, fs.lookup f = some d ∧ ws.lookup f = some v ∧ RD (KX X κ) m S H d v := by
  induction h with
  | nil => exact .inl ⟨rfl, rfl⟩
  | @cons p q l r h _ ih =>
    obtain ⟨g, d⟩ := p
    obtain ⟨g', v⟩ := q
    obtain ⟨e, hd⟩ := h
    simp only at e hd
    subst e
    by_cases hf : f = g
    · have hb : (f == g) = true := beq_iff_eq.mpr hf
      exact .inr ⟨d, v, by simp only [List.lookup, hb], by simp only [List.lookup, hb], hd⟩
    · have hb : (f == g) = false := beq_eq_false_iff_ne.mpr hf
      simp only [List.lookup, hb]
      exact ih
def eFld (c f : Str) (fe : ED) : ED := fun ρ S => (fe ρ S).bind fun d S1 => match insO c S1 d with
  | some fs => (match fs.lookup f with
    | some v => .ok v S1
    | none => .st)
  | none => .st
theorem de_fld {c f : Str} {C : Addr} {e : Expr} {pos : Pos} {fe : ED} (he : DE X W e fe) (hC : X.mg c = some (.ref C)) (cl : Cls X.K C) (na : NoAttr X.K C f) (hb : attributeBase e f X.env (eval e X.env) = eval e X.env := by rfl) :
    DE X W (.Attribute e f pos) (eFld c f fe) := by
  obtain ⟨t, q, i⟩ := he
  refine ⟨_, pe_fld q hb, fun κ ρ S σ H m Q rl re h => ?_⟩
  refine i.seq rl re h fun d S1 v H1 m1 x1 rl1 re1 r1 h1 => ?_
  split at h1
  · rename_i fs e1
    obtain ⟨n, a, C', dx, ws, rfl, em, es, rfl, hc, ha, ho, hw⟩ := r1.ins rl1 e1
    rw [hC] at hc
    cases hc
    rcases fld_pair hw f with ⟨z1, z2⟩ | ⟨d, v, z1, z2, z3⟩
    · rw [z1] at h1
      exact h1.elim
    · rw [z1] at h1
      exact ⟨a, C, dx, ws, v, rfl, ha, cl, na, z2, h1.ok' .refl rl1 z3⟩
  · exact h1.elim
/-- o.f = v -/
def putFD (f : Str) (v : D) : List (Str × D) → List (Str × D)
  | [] => [(f, v)]
  | (g, x) :: r => if g = f then (g, v) :: r else (g, x) :: putFD f v r
theorem putF_pair {fs : List (Str × D)} {ws : List (Str × V)} {f : Str} {d : D} {v : V} (h : RFS (KX X κ) m S H fs ws) (r : RD (KX X κ) m S H d v) : RFS (KX X κ) m S H (putFD f d fs) (putF f v ws) := by
  induction h with
  | nil => exact .cons ⟨rfl, r⟩ .nil
  | @cons p q l r' h t ih =>
    obtain ⟨g, d'⟩ := p
    obtain ⟨g', v'⟩ := q
    obtain ⟨e, hd⟩ := h
    simp only at e hd
    subst e
    unfold putFD putF
    by_cases hg : g = f
    · rw [if_pos hg, if_pos hg]
      exact .cons ⟨rfl, r⟩ t
    · rw [if_neg hg, if_neg hg]
      exact .cons ⟨rfl, hd⟩ ih
def putI (c f : Str) (o v : D) (S : Sto) : Option Sto := match o with
  | .ob n => (match S[n]? with
    | some (.ins c' fs) => if c' = c ∧ fs.length < 1000 then some (S.set n (.ins c (putFD f v fs))) else none
    | _ => none)
  | _ => none
def sFldI (c f : Str) (fo fv : ED) : SD := fun ρ S => liftS ρ (fv ρ S) fun v S1 => liftS ρ (fo ρ S1) fun o S2 => nxO ρ (putI c f o v S2)
theorem ds_fld {c f : Str} {C : Addr} {o value : Expr} {pos pos' : Pos} {fo fv : ED} (ho : DE X W o fo) (hv : DE X W value fv) (hC : X.mg c = some (.ref C)) (cl : Cls X.K C) (na : NoAttr X.K C f)
    (hs : swapsWith value (some (.Attribute o f pos')) pos.line X.env = pure false := by rfl) : DS X W (.Assign [.Attribute o f pos'] value pos) (sFldI c f fo fv) := by
  obtain ⟨t1, p1, i1⟩ := ho
  obtain ⟨t3, p3, i3⟩ := hv
  refine ⟨_, ps_fld p1 p3 hs, fun κ ρ S σ H m Dn rl re h => ?_⟩
  refine i3.seqS rl re h fun v S1 vv H1 m1 x1 rl1 re1 r1 h1 => ?_
  refine i1.seqS rl1 re1 h1 fun o' S2 vo H2 m2 x2 rl2 re2 r2 h2 => ?_
  have q1 := r1.nx x2
  unfold putI at h2
  split at h2
  · rename_i n
    split at h2
    · rename_i c' fs es
      split at h2
      · rename_i hcf
        obtain ⟨rfl, hlen⟩ := hcf
        obtain ⟨n', a, C', dx, ws, en, em, es', rfl, hc, ha, hown, hw⟩ := r2.ins rl2 (show insO c' S2 (.ob n) = some fs by simp only [insO, es, if_true])
        cases en
        rw [hC] at hc
        cases hc
        refine ⟨a, C, dx, ws, rfl, ha, cl, na, by rw [← pairLen hw]; exact hlen, ?_⟩
        have y := Nx.put (o' := .ins c' (putFD f v fs)) (ho := .ins C dx (putF f vv ws)) rl2 em es rfl
        exact h2 σ _ m2 y (rl2.putI em es hC hown (putF_pair hw q1)) (RE.nx y re2)
      · exact h2.elim
    · exact h2.elim
  · exact h2.elim
end
/-! methods, instances made -/
/-- the method m of the class c does g (n arguments, self among them) -/
structure FnM (P : Program) (w : World) (K : PySem.W.Frag) (mg : Str → Option Value) (base : Heap) (k : Nat) (c mn : Str) (n : Nat) (g : FD) : Prop where
  ex : ∃ (C f : Addr) (fd : FuncData) (ps : List Str), ps.length = n ∧ mg c = some (.ref C) ∧ Cls K C ∧ Meth K C mn f ∧ Binds K fd ps [] ∧ FnOk P w K mg base CX0 k f fd ps (spOf K mg n fun ds S => noEx (g ds S))
/-- __init__ of the class c does g -/
structure FnI (P : Program) (w : World) (K : PySem.W.Frag) (mg : Str → Option Value) (base : Heap) (k : Nat) (c : Str) (n : Nat) (g : FD) : Prop where
  ex : ∃ (C f : Addr) (fd : FuncData) (ps : List Str), ps.length = n ∧ mg c = some (.ref C) ∧ Mk K C f ∧ Binds K fd ps [] ∧ FnOk P w K mg base CX0 k f fd ps (spOf K mg n fun ds S => noEx (g ds S))
section
variable {X : Cx} {W : WX} {o e : Expr} {es : List Expr} {pos apos : Pos} {fo : ED} {ga : AD}
def eMeth (c mn : Str) (n : Nat) (g : FD) (fo : ED) (ga : AD) : ED := fun ρ S => (fo ρ S).bind fun d S1 => match insO c S1 d with
  | some fs => if fs.lookup mn = none then (ga ρ S1).bind fun ds S2 => if ds.length + 1 = n then noEx (g (d :: ds) S2) else .st else .st
  | none => .st
theorem de_meth {pl : Sem Bool} {k j n : Nat} {c mn : Str} {g : FD} (F : FnM X.prog X.w X.K X.mg X.base k c mn n g) (hr : Room j X.A) (hk : k ≤ j) (ho : DE X W o fo) (ha : DA X W (e :: es) ga)
    (hst : starEach (e :: es) X.env = (false, eval e X.env) :: starEach es X.env := by rfl) (hpl : (backTo pos (starEach es X.env)).any (·.1) = false := by rfl)
    (ht : eval (.Call (.Attribute o mn apos) (e :: es) [] pos) X.env = (do
      let ov ← eval o X.env
      standAt apos.atName
      let (f, first) ← holding [ov] (getMethod ov mn pl)
      callWith pos f first (backTo pos (starEach (e :: es) X.env)) (backToKw pos (keywordEach [] X.env))) := by rfl) :
    DE X W (.Call (.Attribute o mn apos) (e :: es) [] pos) (eMeth c mn n g fo ga) := by
  obtain ⟨C, f, fd, ps, hl, gm, cl, me, bd, ok⟩ := F
  obtain ⟨t1, p1, i1⟩ := ho
  obtain ⟨t2, p2, i2⟩ := ha
  refine ⟨_, pe_meth (pl := pl) p1 cl me ok (hr.mono hk) bd .nil pass0 p2 hst hpl ht, fun κ ρ S σ H m Q rl re h => ?_⟩
  refine i1.seq rl re h fun d S1 v H1 m1 x1 rl1 re1 r1 h1 => ?_
  split at h1
  · rename_i fs e1
    obtain ⟨n', a, C', dx, ws, rfl, em, es, rfl, hc, hA, hown, hw⟩ := r1.ins rl1 e1
    rw [gm] at hc
    cases hc
    split at h1
    · rename_i hln
      have hl2 : ws.lookup mn = none := by
        rcases fld_pair hw mn with ⟨_, z⟩ | ⟨d, v, z1, _⟩
        · exact z
        · rw [hln] at z1; cases z1
      refine ⟨a, dx, ws, rfl, hA, hl2, ?_⟩
      refine i2.seq rl1 re1 h1 fun ds S2 vs H2 m2 x2 rl2 re2 r2 h2 => ?_
      split at h2
      · rename_i hn
        rw [List.append_nil]
        refine ⟨?_, κ, _, S2, m2, rl2, .cons (r1.nx x2) r2, PostF.no h2⟩
        rw [List.length_cons, ← pairLen r2]
        exact hn
      · exact h2.elim
    · exact h1.elim
  · exact h1.elim
theorem de_meth0 {pl : Sem Bool} {k j n : Nat} {c mn : Str} {g : FD} (F : FnM X.prog X.w X.K X.mg X.base k c mn n g) (hr : Room j X.A) (hk : k ≤ j) (ho : DE X W o fo)
    (ht : eval (.Call (.Attribute o mn apos) [] [] pos) X.env = (do
      let ov ← eval o X.env
      standAt apos.atName
      let (f, first) ← holding [ov] (getMethod ov mn pl)
      callWith pos f first (backTo pos (starEach [] X.env)) (backToKw pos (keywordEach [] X.env))) := by rfl) :
    DE X W (.Call (.Attribute o mn apos) [] [] pos) (eMeth c mn n g fo aNil) := by
  obtain ⟨C, f, fd, ps, hl, gm, cl, me, bd, ok⟩ := F
  obtain ⟨t1, p1, i1⟩ := ho
  refine ⟨_, pe_meth0 (pl := pl) p1 cl me ok (hr.mono hk) bd .nil pass0 ht, fun κ ρ S σ H m Q rl re h => ?_⟩
  refine i1.seq rl re h fun d S1 v H1 m1 x1 rl1 re1 r1 h1 => ?_
  split at h1
  · rename_i fs e1
    obtain ⟨n', a, C', dx, ws, rfl, em, es, rfl, hc, hA, hown, hw⟩ := r1.ins rl1 e1
    rw [gm] at hc
    cases hc
    split at h1
    · rename_i hln
      have hl2 : ws.lookup mn = none := by
        rcases fld_pair hw mn with ⟨_, z⟩ | ⟨d, v, z1, _⟩
        · exact z
        · rw [hln] at z1; cases z1
      refine ⟨a, dx, ws, rfl, hA, hl2, ?_⟩
      have h1 : Post X κ W m1 S1 H1 σ (RD (KX X κ)) (if ([] : List D).length + 1 = n then noEx (g [.ob n'] S1) else .st) Q := h1
      split at h1
      · rename_i hn
        exact ⟨hn, κ, _, S1, m1, rl1, .cons r1 .nil, PostF.no h1⟩
      · exact h1.elim
    · exact h1.elim
  · exact h1.elim
/-- C(e, ..) -/
def eMake (c : Str) (n : Nat) (g : FD) (ga : AD) : ED := fun ρ S => (ga ρ S).bind fun ds S1 => if ds.length + 1 = n then
    (match noEx (g (.ob S1.length :: ds) (S1 ++ [.ins c []])) with
      | .ok (.p .none) S3 => .ok (.ob S1.length) S3
      | _ => .st)
  else .st
theorem de_make {k j n : Nat} {c : Str} {p : Pos} {g : FD} (F : FnI X.prog X.w X.K X.mg X.base k c n g) (hr : Room j X.A) (hk : k + 1 ≤ j) (hg : Gl X c) (ha : DA X W (e :: es) ga)
    (hd : (c == ("__debug__" : Str)) = false := by decide) (hs : starEach (e :: es) X.env = (false, eval e X.env) :: starEach es X.env := by rfl) (hp : (backTo pos (starEach es X.env)).any (·.1) = false := by rfl) :
    DE X W (.Call (.Name c p) (e :: es) [] pos) (eMake c n g ga) := by
  obtain ⟨C, f, fd, ps, hl, gm, mk, bd, ok⟩ := F
  obtain ⟨t, q, i⟩ := ha
  refine ⟨_, pe_make mk ok (hr.mono hk) hg gm bd .nil pass0 q hd hs hp, fun κ ρ S σ H m Q rl re h => ?_⟩
  refine i.seq rl re h fun ds S1 vs H1 m1 x1 rl1 re1 r1 h1 => ?_
  split at h1
  · rename_i hn
    intro x dx nx ndx nex
    have y1 : Nx (KX X κ) m1 S1 H1 m1 S1 (upd H1 dx (.own x)) := Nx.new rl1 ndx
    have rlA : Rl (KX X κ) m1 S1 (upd H1 dx (.own x)) := rl1.new ndx
    have nx2 : (upd H1 dx (.own x)) x = none := by rw [upd_ne nex.symm]; exact nx
    have y2 : Nx (KX X κ) m1 S1 (upd H1 dx (.own x)) (m1 ++ [x]) (S1 ++ [.ins c []]) (upd (upd H1 dx (.own x)) x (.ins C dx [])) := Nx.push rlA nx2
    have rlB : Rl (KX X κ) (m1 ++ [x]) (S1 ++ [.ins c []]) (upd (upd H1 dx (.own x)) x (.ins C dx [])) := rlA.push nx2 ⟨C, dx, [], gm, upd_same, by rw [upd_ne nex]; exact upd_same, .nil⟩
    have rdx : RD (KX X κ) (m1 ++ [x]) (S1 ++ [.ins c []]) (upd (upd H1 dx (.own x)) x (.ins C dx [])) (.ob S1.length) (.ref x) := RD.push rlA
    rw [List.append_nil]
    refine ⟨by rw [List.length_cons, ← pairLen r1]; exact hn, κ, .ob S1.length :: ds, S1 ++ [.ins c []], m1 ++ [x], rlB, .cons rdx ((r1.nx y1).nx y2), ?_⟩
    cases eg : noEx (g (.ob S1.length :: ds) (S1 ++ [.ins c []])) with
    | st => rw [eg] at h1; exact h1.elim
    | ex a b => rw [eg] at h1; exact h1.elim
    | ok d S3 =>
      rw [eg] at h1
      cases d with
      | ob _ => exact h1.elim
      | scr _ => exact h1.elim
      | xc _ _ _ => exact h1.elim
      | p d =>
        cases d with
        | none =>
          show PostF _ _ _ _ _ (noEx (g (.ob S1.length :: ds) (S1 ++ [.ins c []]))) _ _
          rw [eg]
          intro v H' m' z rl' rv
          refine ⟨by simpa [RD, RP] using rv, ?_⟩
          exact h1 (.ref x) H' m' ((y1.trans y2).trans z) rl' (rdx.nx z)
        | _ => exact h1.elim
  · exact h1.elim
/-! a global that holds a text -/
theorem de_globS {x : Str} {z : Str} {p : Pos} (hg : Gl X x) (hm : ∃ t, X.mg x = some (.str z t)) (hd : (x == ("__debug__" : Str)) = false := by decide) : DE X W (.Name x p) (eC (.str z)) := by
  obtain ⟨t, hm⟩ := hm
  refine ⟨tC (.str z), pe_glob hg hm ⟨t, rfl⟩ hd, fun κ ρ S σ H m Q rl re h => h.ok' .refl rl RD.str_⟩
/-! d[k] = v, where v goes on changing -/
def putDO (o i v : D) (S : Sto) : Option Sto := match o with
  | .ob n => (match S[n]?, keyD i with
      | some (.dic kvs), some k => if kvs.length < sizeLine then some (S.set n (.dic (setD kvs k v))) else none
      | _, _ => none)
  | _ => none
def sDPtO (fo fi fv : ED) : SD := fun ρ S => liftS ρ (fv ρ S) fun v S1 => liftS ρ (fo ρ S1) fun o S2 => liftS ρ (fi ρ S2) fun i S3 => nxO ρ (putDO o i v S3)
theorem ds_dputO {o i value : Expr} {pos pos' : Pos} {fo fi fv : ED} (hu : X.A.units + 65 < cLine) (ho : DE X W o fo) (hi : DE X W i fi) (hv : DE X W value fv) (hs : swapsWith value (some (.Subscript o i pos')) pos.line X.env = pure false := by rfl) :
    DS X W (.Assign [.Subscript o i pos'] value pos) (sDPtO fo fi fv) := by
  obtain ⟨t1, p1, i1⟩ := ho
  obtain ⟨t2, p2, i2⟩ := hi
  obtain ⟨t3, p3, i3⟩ := hv
  refine ⟨_, ps_dput (by omega) p1 p2 p3 hs, fun κ ρ S σ H m Dn rl re h => ?_⟩
  refine i3.seqS rl re h fun v S1 vv H1 m1 x1 rl1 re1 r1 h1 => ?_
  refine i1.seqS rl1 re1 h1 fun o' S2 vo H2 m2 x2 rl2 re2 r2 h2 => ?_
  refine i2.seqS rl2 re2 h2 fun i' S3 vi H3 m3 x3 rl3 re3 r3 h3 => ?_
  have q1 := (r1.nx x2).nx x3
  have q2 := r2.nx x3
  unfold putDO at h3
  split at h3
  · rename_i n
    split at h3
    · rename_i kvs k e5 e6
      split at h3
      · rename_i hl
        obtain ⟨n', a, ws, en, em, es, rfl, h5, h6⟩ := q2.dic rl3 (show dicO S3 (.ob n) = some kvs by simp only [dicO, e5])
        cases en
        obtain ⟨b, rfl, hb⟩ := r3.key e6
        have q := set_pair h6 k q1
        refine ⟨a, _, rfl, DPut.t (k := k) h5 hb (by rw [← pairLen h6]; exact hl), ?_⟩
        exact h3 σ _ m3 (Nx.put rl3 em es rfl) (rl3.putT em es q) (RE.nx (Nx.put rl3 em es rfl) re3)
      · exact h3.elim
    · exact h3.elim
  · exact h3.elim
end
/-! the defs of a class -/
section
variable {P : Program} {w : World} {K : PySem.W.Frag} {mg : Str → Option Value} {base : Heap}
abbrev BindsM (x qual : Str) (st : Stmt) (ps : List Str) : Prop := ∀ (kV doc pm : Value) (an : Option Addr) (cdv ct : Value) (us : List Value), us.length = ps.length → bindArgs (PySem.W.fnOf x qual (defArgs st) (defBody st) (defScope st) .none kV doc pm an cdv ct) ⟨us, []⟩ = pure (ps.zip us)
theorem fok_dlM {x qual : Str} {st : Stmt} {f : Addr} {fd : FuncData} {N ps : List Str} {k n : Nat} {F : SD} (Fu : FunD K x qual (defArgs st) (defBody st) (defScope st) [] [] f fd) (Sc : FnScope N ps (defScope st)) (hn : ps.length = n)
    (body : ∀ (cdv : Value) (A : Around) (outer : List PySem.Env) (s : Shared) (H : Hp) (E : XK), Room k (A.deeper (envOfC qual (defScope st) s.heap.objs.size f cdv)) →
      DSs (cxOf CX0 P w K mg base N qual (defScope st) f cdv A outer s H E).nox (fun _ _ _ _ => False) (defBody st) F) : FnOk P w K mg base CX0 (k + 1) f fd ps (spOf K mg n fun ds S => noEx (gB N F ds S)) := by
  refine Fu.ok (CX := CX0) Sc (fun vs H Q E h => h.1.trans hn.symm) fun cdv A outer s H vs Q E hr h => ?_
  obtain ⟨hl, κ, ds, S, m, rl, rd, po⟩ := h
  obtain ⟨t, pt, it⟩ := body cdv A outer s H E hr
  refine ⟨t, pt.nox, it κ (start0 N ds) S (L2.start N vs) H m _ rl (RE_start rd) ?_⟩
  refine post_of (E := fun _ _ _ => False) rl (gB_dn N F ds S) ?_ (fun _ _ _ _ z => z)
  have po : PostF ⟨K, κ, mg⟩ mg m S H (noEx (gB N F ds S)) Q E := po
  cases e : gB N F ds S with
  | st => rw [e] at po; exact po.elim
  | ok d S' => rw [e] at po; exact po
  | ex y S' => rw [e] at po; exact po.elim
theorem fn_dlM {c x qual : Str} {st : Stmt} {C f : Addr} {fd : FuncData} {N ps : List Str} {k n : Nat} {F : SD} (Fu : FunD K x qual (defArgs st) (defBody st) (defScope st) [] [] f fd) (Sc : FnScope N ps (defScope st)) (gm : mg c = some (.ref C)) (cl : Cls K C) (me : Meth K C x f) (bd : BindsM x qual st ps) (hn : ps.length = n)
    (body : ∀ (cdv : Value) (A : Around) (outer : List PySem.Env) (s : Shared) (H : Hp) (E : XK), Room k (A.deeper (envOfC qual (defScope st) s.heap.objs.size f cdv)) →
      DSs (cxOf CX0 P w K mg base N qual (defScope st) f cdv A outer s H E).nox (fun _ _ _ _ => False) (defBody st) F) : FnM P w K mg base (k + 1) c x n (gB N F) :=
  ⟨C, f, fd, ps, hn, gm, cl, me, Fu.bindsN bd, fok_dlM Fu Sc hn body⟩
theorem fnM_st {c x qual : Str} {st : Stmt} {C f : Addr} {fd : FuncData} {ps : List Str} {k n : Nat} (Fu : FunD K x qual (defArgs st) (defBody st) (defScope st) [] [] f fd) (gm : mg c = some (.ref C)) (cl : Cls K C) (me : Meth K C x f) (bd : BindsM x qual st ps) (hn : ps.length = n) : FnM P w K mg base k c x n (fun _ _ => .st) := by
  refine ⟨C, f, fd, ps, hn, gm, cl, me, Fu.bindsN bd, ⟨fun vs H Q E h => h.1.trans hn.symm, fun A outer s H ar us vs Q E hr e0 hb r h => ?_⟩⟩
  obtain ⟨_, _, _, _, _, _, _, po⟩ := h
  exact po.elim
theorem fn_dlI {c qual : Str} {st : Stmt} {C f : Addr} {fd : FuncData} {N ps : List Str} {k n : Nat} {F : SD} (Fu : FunD K "__init__" qual (defArgs st) (defBody st) (defScope st) [] [] f fd) (Sc : FnScope N ps (defScope st)) (gm : mg c = some (.ref C)) (mk : Mk K C f) (bd : BindsM "__init__" qual st ps) (hn : ps.length = n)
    (body : ∀ (cdv : Value) (A : Around) (outer : List PySem.Env) (s : Shared) (H : Hp) (E : XK), Room k (A.deeper (envOfC qual (defScope st) s.heap.objs.size f cdv)) →
      DSs (cxOf CX0 P w K mg base N qual (defScope st) f cdv A outer s H E).nox (fun _ _ _ _ => False) (defBody st) F) : FnI P w K mg base (k + 1) c n (gB N F) :=
  ⟨C, f, fd, ps, hn, gm, mk, Fu.bindsN bd, fok_dlM Fu Sc hn body⟩
end
end DL

/-! dicts whose keys are ints and texts; dicts walked -/
namespace DL
open PySem PySem.Spec PyProof.Rows L2
section
variable {X : Cx} {W : WX} {m m1 : List Addr} {S S1 : Sto} {H H1 : Hp} {σ : St} {κ : Addr → Prop}
def keyOne : D → Option Key
  | .p d => keyP d
  | _ => none
theorem RD.key1 {y : D} {v : V} {k : Key} (h : RD (KX X κ) m S H y v) (e : keyOne y = some k) : v = kV k := by
  unfold keyOne at e
  split at e
  · rename_i d
    unfold keyP at e
    split at e
    · cases e
      have h : RP _ _ _ _ _ := h
      rw [RP] at h
      exact h
    · cases e
      have h : RP _ _ _ _ _ := h
      rw [RP] at h
      exact h
    · cases e
  · cases e
def valK (kvs : List (Key × D)) (k : Key) : Option D := (kvs.find? fun kv => decide (kv.1 = k)).map (·.2)
def setK (kvs : List (Key × D)) (k : Key) (v : D) : List (Key × D) :=
  if (kvs.any fun kv => decide (kv.1 = k)) = true then kvs.map (fun kv => if kv.1 = k then (kv.1, v) else kv) else kvs ++ [(k, v)]
theorem val_pairK {kvs : List (Key × D)} {ws : List (Key × V)} (r : RKK (KX X κ) m S H kvs ws) (k : Key) :
    (valK kvs k = none ∧ valV ws k = none) ∨ ∃ d v, valK kvs k = some d ∧ valV ws k = some v ∧ RD (KX X κ) m S H d v := by
  induction r with
  | nil => exact .inl ⟨rfl, rfl⟩
  | @cons p q l l' h _ ih =>
    by_cases e : p.1 = k
    · have e2 : q.1 = k := h.1.symm.trans e
      exact .inr ⟨p.2, q.2, by simp [valK, List.find?_cons, e], valV_pos e2, h.2⟩
    · have e2 : ¬ q.1 = k := fun z => e (h.1.trans z)
      rw [valV_neg e2]
      have : valK (p :: l) k = valK l k := by simp [valK, List.find?_cons, e]
      rw [this]
      exact ih
theorem any_pairK {kvs : List (Key × D)} {ws : List (Key × V)} (r : RKK (KX X κ) m S H kvs ws) (k : Key) : (kvs.any fun kv => decide (kv.1 = k)) = (ws.any fun kv => decide (kv.1 = k)) := by
  induction r with
  | nil => rfl
  | @cons p q l l' h _ ih => rw [List.any_cons, List.any_cons, ih, h.1]
theorem map_pairK {kvs : List (Key × D)} {ws : List (Key × V)} (r : RKK (KX X κ) m S H kvs ws) (k : Key) {d : D} {v : V} (rd : RD (KX X κ) m S H d v) :
    RKK (KX X κ) m S H (kvs.map (fun kv => if kv.1 = k then (kv.1, d) else kv)) (ws.map (fun kv => if kv.1 = k then (kv.1, v) else kv)) := by
  induction r with
  | nil => exact .nil
  | @cons p q l l' h _ ih =>
    refine .cons ?_ ih
    show (if p.1 = k then (p.1, d) else p).1 = (if q.1 = k then (q.1, v) else q).1 ∧ RD (KX X κ) m S H (if p.1 = k then (p.1, d) else p).2 (if q.1 = k then (q.1, v) else q).2
    by_cases e : p.1 = k
    · have e2 : q.1 = k := h.1.symm.trans e
      rw [if_pos e, if_pos e2]
      exact ⟨h.1, rd⟩
    · have e2 : ¬ q.1 = k := fun z => e (h.1.trans z)
      rw [if_neg e, if_neg e2]
      exact h
theorem set_pairK {kvs : List (Key × D)} {ws : List (Key × V)} (r : RKK (KX X κ) m S H kvs ws) (k : Key) {d : D} {v : V} (rd : RD (KX X κ) m S H d v) : RKK (KX X κ) m S H (setK kvs k d) (putK ws k v) := by
  unfold setK putK
  rw [any_pairK r k]
  split
  · exact map_pairK r k rd
  · exact pairApp r (.cons ⟨rfl, rd⟩ .nil)

def eDNewK : ED := fun _ S => .ok (.ob S.length) (S ++ [.dik []])
theorem de_dnewK {pos : Pos} : DE X W (.Dict [] [] pos) eDNewK :=
  ⟨_, pe_dnewK, fun κ ρ S σ H m Q rl re h p hp => h.ok' (.push rl hp) (rl.push hp ⟨[], upd_same, .nil⟩) (RD.push rl)⟩
def dikO (S : Sto) : D → Option (List (Key × D))
  | .ob n => match S[n]? with
    | some (.dik kvs) => some kvs
    | _ => none
  | _ => none
theorem RD.dik {d : D} {v : V} {kvs : List (Key × D)} (r : Rl (KX X κ) m S H) (h : RD (KX X κ) m S H d v) (e : dikO S d = some kvs) : ∃ n a ws, d = .ob n ∧ m[n]? = some a ∧ S[n]? = some (.dik kvs) ∧ v = .ref a ∧ H a = some (.dK ws) ∧ RKK (KX X κ) m S H kvs ws := by
  unfold dikO at e
  split at e
  · rename_i n
    split at e
    · rename_i q
      cases e
      obtain ⟨a, em, rfl⟩ := h
      obtain ⟨ws, h1, h2⟩ := r.obj n a _ em q
      exact ⟨n, a, ws, rfl, em, q, rfl, h1, h2⟩
    · cases e
  · cases e
/-- d[k] -/
def gDIxK : D → D → Sto → Rs D := fun x y S => match dikO S x, keyOne y with
  | some kvs, some k => (match valK kvs k with
    | some d => .ok d S
    | none => .st)
  | _, _ => .st
theorem de_dixK {a b : Expr} {pos : Pos} {fa fb : ED} (hu : X.A.units + 65 < cLine) (ha : DE X W a fa) (hb : DE X W b fb) (hs : NoSl b) : DE X W (.Subscript a b pos) (eBin gDIxK fa fb) := by
  obtain ⟨ta, pa, ia⟩ := ha
  obtain ⟨tb, pb, ib⟩ := hb
  refine ⟨_, pe_dget (by omega) pa pb hs, fun κ ρ S σ H m Q rl re h => ?_⟩
  refine ia.seq rl re h fun x S1 vx H1 m1 x1 rl1 re1 r1 h1 => ?_
  refine ib.seq rl1 re1 h1 fun y S2 vy H2 m2 x2 rl2 re2 r2 h2 => ?_
  have r1 := r1.nx x2
  unfold gDIxK at h2
  split at h2
  · rename_i kvs k e1 e2
    split at h2
    · rename_i d e3
      obtain ⟨n, p, ws, rfl, _, _, rfl, h3, h4⟩ := r1.dik rl2 e1
      obtain rfl := r2.key1 e2
      rcases val_pairK h4 k with ⟨z1, _⟩ | ⟨d', v, z1, z2, z3⟩
      · rw [e3] at z1; cases z1
      · rw [e3] at z1
        cases z1
        exact ⟨p, v, rfl, z2 ▸ DGet.k (k := k) h3, h2.ok' .refl rl2 z3⟩
    · exact h2.elim
  · exact h2.elim
/-- k in d -/
def gInK (neg : Bool) : D → D → Sto → Rs D := fun x y S => match dikO S y, keyOne x with
  | some kvs, some k => .ok (.bl (neg ^^ (valK kvs k).isSome)) S
  | _, _ => .st
theorem get_dik {x y : D} {vx vy : V} {kvs : List (Key × D)} {k : Key} (rl : Rl (KX X κ) m S H) (rx : RD (KX X κ) m S H x vx) (ry : RD (KX X κ) m S H y vy) (e1 : dikO S y = some kvs) (e2 : keyOne x = some k) :
    ∃ a o, vy = .ref a ∧ DGet H a vx o ∧ o.isSome = (valK kvs k).isSome := by
  obtain ⟨n, p, ws, rfl, _, _, rfl, h3, h4⟩ := ry.dik rl e1
  obtain rfl := rx.key1 e2
  refine ⟨p, _, rfl, DGet.k (k := k) h3, ?_⟩
  rcases val_pairK h4 k with ⟨z1, z2⟩ | ⟨d', v, z1, z2, z3⟩
  · rw [z1, z2]; rfl
  · rw [z1, z2]; rfl
theorem od_inK (hu : X.A.units + 65 < cLine) : OpD X W (compareOp .In) (gInK false) := by
  refine ⟨_, op_inDc (by omega), fun κ x y vx vy m S H σ Q rl rx ry h => ?_⟩
  unfold gInK at h
  split at h
  · rename_i kvs k e1 e2
    obtain ⟨a, o, rfl, g, e3⟩ := get_dik rl rx ry e1 e2
    refine ⟨a, o, rfl, g, ?_⟩
    rw [e3]
    exact h.ok' .refl rl (by rw [Bool.false_xor]; exact RD.bl_)
  · exact h.elim
theorem od_notinK (hu : X.A.units + 65 < cLine) : OpD X W (compareOp .NotIn) (gInK true) := by
  refine ⟨_, op_notInDc (by omega), fun κ x y vx vy m S H σ Q rl rx ry h => ?_⟩
  unfold gInK at h
  split at h
  · rename_i kvs k e1 e2
    obtain ⟨a, o, rfl, g, e3⟩ := get_dik rl rx ry e1 e2
    refine ⟨a, o, rfl, g, ?_⟩
    rw [e3]
    exact h.ok' .refl rl (by rw [Bool.true_xor]; exact RD.bl_)
  · exact h.elim
/-- d[k] = v (what is stored comes to rest, or goes on changing) -/
def putDK (live : Bool) (o i v : D) (S : Sto) : Option Sto := match o with
  | .ob n => (match (if live = true then some (v, S) else (restD v S).map fun r => (D.p r.1, r.2)) with
    | some (p, S1) => (match S1[n]?, keyOne i with
      | some (.dik kvs), some k => if kvs.length < sizeLine then some (S1.set n (.dik (setK kvs k p))) else none
      | _, _ => none)
    | none => none)
  | _ => none
def sDPtK (live : Bool) (fo fi fv : ED) : SD := fun ρ S => liftS ρ (fv ρ S) fun v S1 => liftS ρ (fo ρ S1) fun o S2 => liftS ρ (fi ρ S2) fun i S3 => nxO ρ (putDK live o i v S3)
theorem ds_dputK {live : Bool} {o i value : Expr} {pos pos' : Pos} {fo fi fv : ED} (hu : X.A.units + 65 < cLine) (ho : DE X W o fo) (hi : DE X W i fi) (hv : DE X W value fv) (hs : swapsWith value (some (.Subscript o i pos')) pos.line X.env = pure false := by rfl) :
    DS X W (.Assign [.Subscript o i pos'] value pos) (sDPtK live fo fi fv) := by
  obtain ⟨t1, p1, i1⟩ := ho
  obtain ⟨t2, p2, i2⟩ := hi
  obtain ⟨t3, p3, i3⟩ := hv
  refine ⟨_, ps_dput (by omega) p1 p2 p3 hs, fun κ ρ S σ H m Dn rl re h => ?_⟩
  refine i3.seqS rl re h fun v S1 vv H1 m1 x1 rl1 re1 r1 h1 => ?_
  refine i1.seqS rl1 re1 h1 fun o' S2 vo H2 m2 x2 rl2 re2 r2 h2 => ?_
  refine i2.seqS rl2 re2 h2 fun i' S3 vi H3 m3 x3 rl3 re3 r3 h3 => ?_
  have q1 := (r1.nx x2).nx x3
  have q2 := r2.nx x3
  unfold putDK at h3
  split at h3
  · rename_i n
    split at h3
    · rename_i p S4 e4
      have key : ∃ x4 : Nx (KX X κ) m3 S3 H3 m3 S4 H3, Rl (KX X κ) m3 S4 H3 ∧ RD (KX X κ) m3 S4 H3 p vv := by
        split at e4
        · cases e4
          exact ⟨.refl, rl3, q1⟩
        · cases e5 : restD v S3 with
          | none => rw [e5] at e4; cases e4
          | some r =>
            rw [e5] at e4
            cases e4
            obtain ⟨rl4, x4, r4⟩ := q1.restD rl3 e5
            exact ⟨x4, rl4, r4⟩
      obtain ⟨x4, rl4, r4⟩ := key
      have q2' := q2.nx x4
      have q3' := r3.nx x4
      split at h3
      · rename_i kvs k e5 e6
        split at h3
        · rename_i hl
          obtain ⟨n', a, ws, en, em, es, rfl, h5, h6⟩ := q2'.dik rl4 (show dikO S4 (.ob n) = some kvs by simp only [dikO, e5])
          cases en
          obtain rfl := q3'.key1 e6
          have q := set_pairK h6 k r4
          refine ⟨a, _, rfl, DPut.k (k := k) h5 (by rw [← pairLen h6]; exact hl), ?_⟩
          exact h3 σ _ m3 (x4.trans (Nx.put rl4 em es rfl)) (rl4.putK em es q) (RE.nx (Nx.put rl4 em es rfl) (re3.nx x4))
        · exact h3.elim
      · exact h3.elim
    · exact h3.elim
  · exact h3.elim
/-! sorted(d), list(d) -/
def intKs : List (Key × D) → Option (List Int)
  | [] => some []
  | (.inl i, _) :: r => (intKs r).map (i :: ·)
  | _ => none
theorem intKs_ok : ∀ {kvs : List (Key × D)} {ks : List Int}, intKs kvs = some ks → kvs.map (·.1) = ks.map Sum.inl
  | [], ks, e => by cases e; rfl
  | (.inl i, d) :: r, ks, e => by
    unfold intKs at e
    cases e2 : intKs r with
    | none => rw [e2] at e; cases e
    | some l =>
      rw [e2] at e
      cases e
      rw [List.map_cons, List.map_cons, intKs_ok e2]
  | (.inr _, _) :: r, ks, e => by simp [intKs] at e
theorem sorted_srt {ys ks : List Int} (hp : ys.Perm ks) (hs : ys.Pairwise (· ≤ ·)) (hn : ks.Nodup) : ys = srtI ks := by
  have n1 : ys.Nodup := hp.nodup_iff.mpr hn
  refine sorted_one ?_ (srtI_sorted hn) fun j => by rw [mem_srtI]; exact hp.mem_iff
  have := List.pairwise_and_iff.mpr ⟨hs, n1⟩
  exact this.imp fun ⟨h1, h2⟩ => by omega
def gSrtDK : FD := fun ds S => match ds with
  | [d] => (match dikO S d with
    | some kvs => (match intKs kvs with
      | some ks => if ks.length < 64 ∧ ks.Nodup then .ok (.lst ((srtI ks).map .int)) S else .st
      | none => .st)
    | none => .st)
  | _ => .st
theorem rps_ints {K : Kh} {L : Addr → Prop} : ∀ ks : List Int, RPs K H L (ks.map .int) (ks.map V.int)
  | [] => by rw [List.map_nil, List.map_nil, RPs]
  | k :: ks => by
    rw [List.map_cons, List.map_cons, RPs]
    exact ⟨_, _, rfl, by rw [RP], rps_ints ks⟩
theorem cd_srtDK (hc : X.calm = true) : CD X W (.builtin "sorted") gSrtDK := by
  refine ⟨_, call_sortedDI hc, fun κ ds vs m S H σ Q rl rd h => ?_⟩
  unfold gSrtDK at h
  split at h
  · split at h
    · rename_i kvs e1
      split at h
      · rename_i ks e2
        split at h
        · rename_i hh
          obtain ⟨v, rfl, r⟩ := RDs1 rd
          obtain ⟨n, p, ws, rfl, _, hsn, rfl, h3, h4⟩ := r.dik rl e1
          have ek : ws.map (·.1) = ks.map Sum.inl := by
            rw [← intKs_ok e2]
            clear h e1 e2 h3 r rd hsn
            induction h4 with
            | nil => rfl
            | cons h _ ih => rw [List.map_cons, List.map_cons, ih, h.1]
          refine ⟨p, ws, ks, rfl, .of h3, ek, hh.1, fun ys z hp hs hz => ?_⟩
          rw [sorted_srt hp hs hh.2]
          exact h.ok' (.new rl hz) (rl.new hz) (newL rl hz (rps_ints _))
        · exact h.elim
      · exact h.elim
    · exact h.elim
  · exact h.elim
def pK : Key → PyData
  | .inl i => .int i
  | .inr x => .str x
def gToListT : FD := fun ds S => match ds with
  | [d] => (match dicO S d with
    | some kvs => .ok (.lst (kvs.map fun kv => .tuple (kv.1.map pK))) S
    | none => .st)
  | _ => .st
theorem rps_keys {K : Kh} {L : Addr → Prop} : ∀ k : List Key, RPs K H L (k.map pK) (k.map kV)
  | [] => by rw [List.map_nil, List.map_nil, RPs]
  | k :: ks => by
    rw [List.map_cons, List.map_cons, RPs]
    exact ⟨_, _, rfl, by cases k <;> (show RP _ _ _ _ _) <;> (simp only [pK]) <;> (rw [RP]) <;> rfl, rps_keys ks⟩
theorem cd_listT (hc : X.calm = true) : CD X W (.type "list") gToListT := by
  refine ⟨_, call_list_dT hc, fun κ ds vs m S H σ Q rl rd h => ?_⟩
  unfold gToListT at h
  split at h
  · split at h
    · rename_i kvs e1
      obtain ⟨v, rfl, r⟩ := RDs1 rd
      obtain ⟨n, p, ws, rfl, _, hsn, rfl, h3, h4⟩ := r.dic rl e1
      refine ⟨p, ws, rfl, .of h3, fun z bs hz hk => ?_⟩
      refine h.ok' (.new rl hz) (rl.new hz) (newL rl hz ?_)
      rw [RPs_iff]
      clear h e1 h3 r rd hsn
      unfold IsKeys at hk
      induction h4 generalizing bs with
      | nil => cases hk; exact .nil
      | @cons a b l r' h t ih =>
        cases hk with
        | @cons _ b2 _ bs2 h2 t2 =>
          refine .cons ?_ (ih _ t2)
          rw [RP]
          exact ⟨b2, _, rfl, h2, by rw [h.1]; exact rps_keys _⟩
    · exact h.elim
  · exact h.elim
end
end DL

/-! list comprehensions of things that change ([{} for ..]) -/
namespace DL
open PySem PySem.Spec PyProof.Rows L2
open Classical in
noncomputable def lcD (g : GD) (c : BD) (f : ED) (chk : Sto → Prop) (ρ : Env) : List D → List D → Sto → Option (List D × Sto)
  | [], acc, S => some (acc, S)
  | d :: ds, acc, S => match g d ρ S with
    | .ok ρ1 S1 => (match c ρ1 S1 with
      | .ok true S2 => (match f ρ1 S2 with
        | .ok y S3 => if acc.length < sizeLine ∧ chk S3 then lcD g c f chk ρ ds (acc ++ [y]) S3 else none
        | _ => none)
      | .ok false S2 => if chk S2 then lcD g c f chk ρ ds acc S2 else none
      | _ => none)
    | _ => none
def okLD (r : Option (List D × Sto)) : Rs D := match r with
  | some (l, S) => .ok (.ob S.length) (S ++ [.lst l])
  | none => .st
noncomputable def eLcD (i : Env → Sto → Rs IDt) (g : GD) (c : BD) (f : ED) (vs : List Nat) : ED := fun ρ S => (i ρ S).bind fun d S1 => okLD (lcD g c f d.2 (wipeE ρ vs) d.1 [] S1)
theorem RD.hidw2 {K : Kh} {m : List Addr} {S : Sto} {H : Hp} {p : Addr} {o : HO} (r : Rl K m S H) (hp : K.h p) {d : D} {v : V} (h : RD K m S H d v) : RD K m S (upd H p o) d v := by
  have ht : ∀ a vs, H a = some (.tup vs) → (upd H p o) a = some (.tup vs) := fun a vs h => sqT_upd h (.inr (r.hid p hp).2)
  have hl := hid_upd_lst (o := o) r hp
  cases d with
  | p d => exact RP.mono ht hl d v h
  | ob n => exact h
  | scr ns =>
    obtain ⟨a, rfl, h | h⟩ := h
    · obtain ⟨ob, h⟩ := h
      refine ⟨a, rfl, .inl ⟨ob, ?_⟩⟩
      rw [upd_ne fun z => ?_]
      · exact h
      · subst z
        obtain ⟨u, e, mu⟩ := (r.hid a hp).2
        rw [h] at e; cases e; exact mu
    · exact ⟨a, rfl, .inr h⟩
  | xc a dd fs =>
    refine ⟨h.1, fun d e => ?_⟩
    have q := h.2 d e
    rw [upd_ne fun z => ?_]
    · exact q
    · subst z
      obtain ⟨u, e2, mu⟩ := (r.hid d hp).2
      rw [q] at e2; cases e2; exact mu
section
variable {X : Cx} {W : WX} {m m1 m2 : List Addr} {S S1 S2 : Sto} {H H1 H2 : Hp} {κ : Addr → Prop} {L : Addr} {o : O}
theorem Rl.shownD {acc : List D} {ws : List V} (r : Rl ⟨X.K, fun a => κ a ∨ a = L, X.mg⟩ m2 S2 H2) (hn : ¬ κ L) (eL : H2 L = some (.lst ws)) (ra : RDs ⟨X.K, fun a => κ a ∨ a = L, X.mg⟩ m2 S2 H2 acc ws) :
    Rl (KX X κ) (m2 ++ [L]) (S2 ++ [.lst acc]) H2 := by
  have hl := r.len
  refine ⟨by simp [hl], ?_, fun a h => ⟨fun z => ?_, (r.hid a (.inl h)).2⟩, fun k b x ek ex => ?_⟩
  · rw [List.nodup_append]
    refine ⟨r.nd, by simp, fun x hx y hy => ?_⟩
    have : y = L := by simpa using hy
    subst this
    rintro rfl
    exact (r.hid x (.inr rfl)).1 hx
  · rcases List.mem_append.mp z with z | z
    · exact (r.hid a (.inl h)).1 z
    · have : a = L := by simpa using z
      exact hn (this ▸ h)
  · by_cases hk : k < m2.length
    · rw [List.getElem?_append_left hk] at ek
      rw [List.getElem?_append_left (by rw [← hl]; exact hk)] at ex
      have q := r.obj k b x ek ex
      cases x with
      | lst l => obtain ⟨vs, e, q⟩ := q; exact ⟨vs, e, pairMono (fun _ _ => RD.shown hl) q⟩
      | fz l => obtain ⟨vs, e, q⟩ := q; exact ⟨vs, e, RPs_iff.mpr (pairMono (fun _ _ => RP.shown hl) (RPs_iff.mp q))⟩
      | dic l => obtain ⟨vs, e, q⟩ := q; exact ⟨vs, e, pairMono (fun _ _ q => ⟨q.1, RD.shown hl q.2⟩) q⟩
      | dik l => obtain ⟨vs, e, q⟩ := q; exact ⟨vs, e, pairMono (fun _ _ q => ⟨q.1, RD.shown hl q.2⟩) q⟩
      | ins c l => obtain ⟨C, dx, vs, hc, e, ho, q⟩ := q; exact ⟨C, dx, vs, hc, e, ho, pairMono (fun _ _ q => ⟨q.1, RD.shown hl q.2⟩) q⟩
    · rw [List.getElem?_append_right (Nat.le_of_not_lt hk)] at ek
      have h0 : k - m2.length = 0 := by
        have := (List.getElem?_eq_some_iff.mp ek).1
        simp at this
        omega
      rw [h0] at ek
      have eb : b = L := (Option.some.inj ek).symm
      subst eb
      rw [List.getElem?_append_right (by rw [← hl]; omega), ← hl, h0] at ex
      have : x = .lst acc := (Option.some.inj ex).symm
      subst this
      exact ⟨ws, eL, pairMono (fun _ _ => RD.shown hl) ra⟩
theorem imp_lcD {wi : TI} {fi : Env → Sto → Rs IDt} {g : GD} {c : BD} {f : ED} {vs : List Nat} (ii : Imp X W (fun K m S H (d : IDt) (J : It) => ItOk K m S H J d.1 d.2) wi fi) :
    Imp X W RD (tLc wi (canG X vs g) (can X (fun _ _ _ _ => False) RB c) (can X (fun _ _ _ _ => False) RD f) vs) (eLcD fi g c f vs) := by
  intro κ ρ S σ H m Q rl re h
  refine ii.seq rl re h fun d S1 J H1 m1 x1 rl1 re1 iok h1 => ?_
  obtain ⟨ds, chk⟩ := d
  have iok : ItOk (KX X κ) m1 S1 H1 J ds chk := iok
  intro L hL
  have hnk : ¬ κ L := fun z => by
    obtain ⟨u, e, _⟩ := (rl1.hid L z).2
    rw [hL] at e; cases e
  let κ' : Addr → Prop := fun a => κ a ∨ a = L
  have hsub : ∀ a, κ' a → κ a ∨ H1 a = none := fun a z => z.elim .inl fun z => .inr (by rw [z]; exact hL)
  have hL' : κ' L := .inr rfl
  -- the state between two turns
  let St' : Nat → Hp → Prop := fun i H2 => ∃ S2 m2 acc ws, Nx (KX X κ) m1 S1 H1 m2 S2 H2 ∧ Rl (KX X κ') m2 S2 H2 ∧ chk S2 ∧ H2 L = some (.lst ws) ∧ RDs (KX X κ') m2 S2 H2 acc ws ∧
    Post X κ W m1 S1 H1 σ (RD (KX X κ)) (okLD (lcD g c f chk (wipeE ρ vs) (ds.drop i) acc S2)) Q
  refine ⟨fun i n H2 => n = ds.length - i ∧ i ≤ ds.length ∧ St' i H2, ⟨ds.length, by simp, Nat.zero_le _, S1, m1, [], [], Nx.new rl1 hL, rl1.hide hL trivial, iok.here, upd_same, .nil, h1⟩, ?_⟩
  rintro i n H2 ⟨rfl, hi, S2, m2, acc, ws, x2, rl2, ck, eL, racc, h2⟩
  by_cases hlt : i < ds.length
  · have ed : ds.drop i = ds[i] :: ds.drop (i + 1) := List.drop_eq_getElem_cons hlt
    rw [ed] at h2
    obtain ⟨hgo, hy⟩ := iok.go κ' m2 S2 H2 i ds[i] hsub x2 rl2 ck (List.getElem?_eq_getElem hlt)
    refine .inr ⟨hgo, fun H' => i + 1 ≤ ds.length ∧ St' (i + 1) H', fun H' z => ⟨ds.length - (i + 1), by omega, rfl, z.1, z.2⟩, fun x H'' y => ?_⟩
    obtain ⟨x3, rl3, r3⟩ := hy x H'' y
    have re3 : RE (KX X κ') m2 S2 H'' (wipeE ρ vs) (L2.wipe σ vs) := (RE.nxh (K := KX X κ) x2 hsub (RE.wipe re1 vs)).nx x3
    unfold lcD at h2
    refine ⟨κ', ds[i], wipeE ρ vs, S2, m2, rl3, re3, r3, ?_⟩
    cases e1 : g ds[i] (wipeE ρ vs) S2 with
    | st => simp only [e1] at h2; exact h2.elim
    | ex _ _ => simp only [e1] at h2; exact h2.elim
    | ok ρ4 S4 =>
      simp only [e1] at h2
      intro σ4 H4 m4 x4 rl4 re4 wp
      refine ⟨wp.trans (wipe_wipe σ vs (fun _ z => z)), κ', ρ4, S4, m4, rl4, re4, ?_⟩
      cases e2 : c ρ4 S4 with
      | st => simp only [e2] at h2; exact h2.elim
      | ex _ _ => simp only [e2] at h2; exact h2.elim
      | ok b S5 =>
        intro b' H5 m5 x5 rl5 eb
        have eb : b = b' := eb
        subst eb
        have x25 := x3.trans (x4.trans x5)
        cases b with
        | true =>
          simp only [e2] at h2
          rw [if_pos rfl]
          refine ⟨κ', ρ4, S5, m5, rl5, re4.nx x5, ?_⟩
          cases e3 : f ρ4 S5 with
          | st => simp only [e3] at h2; exact h2.elim
          | ex _ _ => simp only [e3] at h2; exact h2.elim
          | ok y5 S6 =>
            simp only [e3] at h2
            intro v6 H6 m6 x6 rl6 r6
            by_cases hk : acc.length < sizeLine ∧ chk S6
            · rw [if_pos hk] at h2
              have x26 := x25.trans x6
              have eL6 : H6 L = some (.lst ws) := (x26.hid L hL').trans eL
              have ra6 := racc.nx x26
              refine ⟨ws, eL6, by rw [← pairLen ra6]; exact hk.1, hlt, S6, m6, acc ++ [y5], ws ++ [v6], ?_, rl6.hidw hL' trivial, hk.2, upd_same, ?_, h2⟩
              · exact Nx.hidw (x2.hidden (h' := κ') x26 (fun a z => .inl z) hsub) hL ⟨_, eL6, trivial⟩ hnk
              · exact pairMono (fun _ _ => RD.hidw2 rl6 hL') (pairApp ra6 (.cons r6 .nil))
            · rw [if_neg hk] at h2; exact h2.elim
        | false =>
          simp only [e2] at h2
          rw [if_neg Bool.false_ne_true]
          by_cases hk : chk S5
          · rw [if_pos hk] at h2
            refine ⟨hlt, S5, m5, acc, ws, x2.hidden (h' := κ') x25 (fun a z => .inl z) hsub, rl5, hk, (x25.hid L hL').trans eL, racc.nx x25, h2⟩
          · rw [if_neg hk] at h2; exact h2.elim
  · have e0 : ds.drop i = [] := List.drop_eq_nil_of_le (Nat.le_of_not_lt hlt)
    rw [e0] at h2
    refine .inl ⟨iok.stop κ' m2 S2 H2 i hsub x2 rl2 ck (Nat.le_of_not_lt hlt), ?_⟩
    have hnm : L ∉ m2 := (rl2.hid L hL').1
    refine h2 (.ref L) H2 (m2 ++ [L]) (Nx.shown x2 hL rl2.len) (Rl.shownD (κ := κ) rl2 hnk eL racc) ?_
    refine ⟨L, ?_, rfl⟩
    rw [← rl2.len, List.getElem?_append_right (Nat.le_refl _), Nat.sub_self]
    rfl
section
variable {elt tg iter : Expr} {ifs : List Expr} {scope : Scope} {own : List (Str × Nat)} {fi : Env → Sto → Rs IDt} {g : GD} {c : BD} {f : ED}
theorem de_lcD (hc : X.calm = true) (hN : X.N.Nodup) (hi : DI X W tg iter fi) (ok : BlkOk X.N X.env.scope scope own)
    (hg : ∀ (s : Shared) (H : Hp) (C : Addr) (cl : List (Str × Addr)) (fp : List Addr), DGw (X.blk s H scope (compEnvC scope cl C X.env) fp) tg (own.map fun x => x.2) g)
    (ht : ∀ (s : Shared) (H : Hp) (C : Addr) (cl : List (Str × Addr)) (fp : List Addr), DTs (X.blk s H scope (compEnvC scope cl C X.env) fp) (fun _ _ _ _ => False) ifs c)
    (he : ∀ (s : Shared) (H : Hp) (C : Addr) (cl : List (Str × Addr)) (fp : List Addr), DE (X.blk s H scope (compEnvC scope cl C X.env) fp) (fun _ _ _ _ => False) elt f)
    (hs : ∀ x, foldedSetIterable iter X.env x = pure x := by intro _; rfl) : DE X W (.ListComp elt [⟨tg, iter, ifs, 0⟩] scope pos) (eLcD fi g c f (own.map fun x => x.2)) := by
  obtain ⟨wi, pi, ii⟩ := hi
  exact ⟨_, @pe_lc X elt tg iter ifs scope own pos wi (canG X (List.map (fun (x : Str × Nat) => x.2) own) g) (can X (fun _ _ _ _ => False) RB c) (can X (fun _ _ _ _ => False) RD f) hc hN pi ok (fun s H C cl fp => (hg s H C cl fp).run) (fun s H C cl fp => (ht s H C cl fp).run) (fun s H C cl fp => (he s H C cl fp).can) hs, imp_lcD ii⟩
theorem ds_setLcD (i : Nat) {y : Str} {py spos : Pos} (hN : X.N.Nodup) (hi : DI X W tg iter fi) (ok : BlkOk X.N X.env.scope scope own)
    (hg : ∀ (s : Shared) (H : Hp) (C : Addr) (cl : List (Str × Addr)) (fp : List Addr), DGw (X.blk s H scope (compEnvC scope cl C X.env) fp) tg (own.map fun x => x.2) g)
    (ht : ∀ (s : Shared) (H : Hp) (C : Addr) (cl : List (Str × Addr)) (fp : List Addr), DTs (X.blk s H scope (compEnvC scope cl C X.env) fp) (fun _ _ _ _ => False) ifs c)
    (he : ∀ (s : Shared) (H : Hp) (C : Addr) (cl : List (Str × Addr)) (fp : List Addr), DE (X.blk s H scope (compEnvC scope cl C X.env) fp) (fun _ _ _ _ => False) elt f)
    (hc : X.calm = true := by rfl) (hy : X.N[i]? = some y := by rfl) (hyl : X.env.scope.names.lookup y = some .local := by rfl) (hsw : swapsWith (.ListComp elt [⟨tg, iter, ifs, 0⟩] scope pos) (some (.Name y py)) spos.line X.env = pure true := by exact sw_true rfl rfl rfl (by decide +kernel))
    (hs : ∀ x, foldedSetIterable iter X.env x = pure x := by intro _; rfl) : DS X W (.Assign [.Name y py] (.ListComp elt [⟨tg, iter, ifs, 0⟩] scope pos) spos) (sSet i (eLcD fi g c f (own.map fun x => x.2))) := by
  obtain ⟨wi, pi, ii⟩ := hi
  refine ⟨_, @ps_setLc X i y py elt tg iter ifs scope own pos spos wi (canG X (List.map (fun (x : Str × Nat) => x.2) own) g) (can X (fun _ _ _ _ => False) RB c) (can X (fun _ _ _ _ => False) RD f) hc hN hy hyl hsw pi ok (fun s H C cl fp => (hg s H C cl fp).run) (fun s H C cl fp => (ht s H C cl fp).run) (fun s H C cl fp => (he s H C cl fp).can) hs, fun κ ρ S σ H m Dn rl re h => ?_⟩
  refine (imp_lcD ii).seqS rl re h fun d S1 v H1 m1 x1 rl1 re1 r1 h1 => ?_
  exact h1 _ H1 m1 .refl rl1 (pairSet re1 fun d' e => ⟨v, rfl, by cases e; exact r1⟩)
end
end
end DL

/-! list(d.values()) -/
namespace DL
open PySem PySem.Spec PyProof.Rows L2
/-- the values of the dict at a -/
def DVals (H : Hp) (a : Addr) (ys : List V) : Prop := (∃ kvs, H a = some (.dT kvs) ∧ ys = kvs.map (·.2)) ∨ ∃ kvs, H a = some (.dK kvs) ∧ ys = kvs.map (·.2)
theorem dvals_raw {P : Program} {w : World} {H : Hp} {h : Heap} {a : Addr} {ys : List V} (ok : HOk P w H h) (hd : DVals H a ys) :
    ys.length ≤ sizeLine ∧ (a == sysModules) = false ∧ ∃ (es : Array DictEntry) (ep : Nat), h.DictRaw a es ep ∧ es.size = ys.length ∧ ∀ (i : Nat) (hi : i < es.size) (y : V), ys[i]? = some y → RelV y es[i].val := by
  rcases hd with ⟨kvs, e, rfl⟩ | ⟨kvs, e, rfl⟩
  · obtain ⟨z, hs, xs, kt, dof⟩ := dt_of ok e
    obtain ⟨es, ep, raw, hsz, hv⟩ := dof.raw
    have hl : kvs.length = xs.length := pairLen kt
    refine ⟨by rw [List.length_map]; exact z, hs, es, ep, raw, by rw [List.length_map]; omega, fun i hi y hy => ?_⟩
    obtain ⟨q, hq, _, e2, _⟩ := hv i hi
    rw [List.getElem?_map] at hy
    cases hk : kvs[i]? with
    | none => rw [hk] at hy; cases hy
    | some kv =>
      rw [hk] at hy
      cases hy
      obtain ⟨q', hq', _, _, hr⟩ := pairGet kt hk
      rw [hq] at hq'
      cases hq'
      rw [e2]
      exact hr
  · obtain ⟨z, hs, vs, kv, dof⟩ := dk_of ok e
    obtain ⟨es, ep, raw, hsz, hv⟩ := dof.raw
    have hl : kvs.length = vs.length := pairLen kv
    refine ⟨by rw [List.length_map]; exact z, hs, es, ep, raw, by rw [List.length_map]; omega, fun i hi y hy => ?_⟩
    rw [List.getElem?_map] at hy
    cases hk : kvs[i]? with
    | none => rw [hk] at hy; cases hy
    | some p =>
      rw [hk] at hy
      cases hy
      obtain ⟨q, hq, _, hr⟩ := pairGet kv hk
      obtain ⟨_, e2⟩ := hv i hi q.1 q.2 hq
      rw [e2]
      exact hr
def valuesO (p d : Addr) : HO := .ext fun h => h.IsValuesView p d
theorem valuesO_ok {P : Program} {w : World} {H : Hp} {h : Heap} {p d : Addr} (e : h.get? p = some { cls := .type "dict_values", data := .fields #[.ref d] }) : ObjOk P w H h p (valuesO p d) :=
  ⟨⟨_, e, rfl, rfl⟩, ⟨_, e⟩, fun h1 h2 x k => let ⟨o, ho, r⟩ := x; ⟨o, k o ho, r⟩⟩
section
variable {X : Cx}
def rVals : V → List V → Hp → VK → Prop := fun x xs H Q => ∃ (a : Addr) (ys : List V), x = .ref a ∧ xs = [] ∧ DVals H a ys ∧ ∀ p, H p = none → Q (.ref p) (upd H p (valuesO p a))
theorem mt_values : MtR X "dict.values" rVals := by
  intro pins s σ H x xs v us Q I rx rxs h
  obtain ⟨a, ys, rfl, rfl, ha, q⟩ := h
  cases rx
  cases rxs
  obtain ⟨z, hd, es, ep, raw, _, _⟩ := dvals_raw I.hok ha
  refine call_meetsIn PySem.F.slot_dict_values raw.typeIs PySem.F.entry_dict_values (PySem.F.args_dict_values_1 _) (meets_dict_values_raw a hd) ⟨⟨es, ep, raw⟩, ?_⟩
  have hf : H s.heap.objs.size = none := I.hok.fresh (Nat.le_refl _)
  exact ⟨.ref s.heap.objs.size, upd H s.heap.objs.size (valuesO s.heap.objs.size a), I.laid (t' := s.toks) (fun b u e => Heap.get?_push_of_some _ e) (Nat.le_refl _) (valuesO_ok (Heap.get?_push_size _ rfl)), rfl, q _ hf⟩
theorem kdl_rawV {prog : Program} {w : World} {r d : Addr} {es : Array DictEntry} {ep : Nat} : PySem.W.KdlSrc prog w "dict_values" r d es.size (fun i v => ∃ hi : i < es.size, v = es[i].val) (fun h => h.IsValuesView r d ∧ h.DictRaw d es ep) where
  type := fun _ hm => hm.1.typeIs
  there := fun _ hm => ⟨let ⟨_, ho, _⟩ := hm.1; Heap.lt_size ho, let ⟨_, ho, _⟩ := hm.2; Heap.lt_size ho⟩
  keep := fun _ _ hm hk => ⟨let ⟨o, ho, x⟩ := hm.1; ⟨o, hk r (.inl rfl) o ho, x⟩, hm.2.at fun o e => hk d (.inr rfl) o e⟩
  notList := by decide
  notTuple := by decide
  hint := fun _ _ _ _ hm hq => PySem.W.kdl_hint_values hm.1.typeIs hq
  iter := fun _ _ hh hm => ⟨_, _, (fun _ _ hq => wpAny_pyIter_values_raw hm.1 hm.2 hq), Walks.rawValues hh _ d (Nat.ne_of_lt (let ⟨_, ho, _⟩ := hm.2; Heap.lt_size ho)) es ep, ⟨⟨_, Heap.get?_push_size _ rfl, rfl, rfl⟩, hm.2.at fun _ e => Heap.get?_push_of_some _ e⟩⟩
theorem cr_listV (hc : X.calm = true) : CallR X (.type "list") (fun xs H Q => ∃ p a ys, xs = [V.ref p] ∧ H p = some (valuesO p a) ∧ DVals H a ys ∧ ∀ l, H l = none → Q (.ref l) (upd H l (.lst ys))) := by
  intro pins s σ H xs us Q I r h
  obtain ⟨p, a, ys, rfl, hp, ha, q⟩ := h
  obtain rfl := Vals.ref1 r
  have view : s.heap.IsValuesView p a := (show ObjOk X.prog X.w H s.heap p (valuesO p a) from I.hok p _ hp).1
  obtain ⟨z, hd, es, ep, raw, hsz, hv⟩ := dvals_raw I.hok ha
  refine PySem.W.kdl_call (kdl_rawV (r := p) (d := a) (es := es) (ep := ep)) (I.ok.hd hc) ⟨view, raw⟩ (by omega) fun h' tk acc' c' kp e it => ?_
  have rv : Vals ys acc'.toList := by
    refine vals_of_at (by have hz := it.1; have hq : acc'.toList.length = acc'.size := Array.length_toList; omega) fun j x u h1 h2 => ?_
    obtain ⟨hi, ev⟩ := it.2 j u (by rw [← Array.getElem?_toList]; exact h2)
    rw [ev]
    exact hv j hi x h1
  refine ⟨.ref s.heap.objs.size, upd H s.heap.objs.size (.lst ys), I.laid (t' := tk) (o := .lst ys) kp (Nat.le_refl _) ⟨z, acc'.toList, c', rv, by rw [Array.toArray_toList]; exact e⟩, rfl, q _ (I.hok.fresh (Nat.le_refl _))⟩
end
def dvD (S : Sto) : D → Option (List D)
  | .ob n => match S[n]? with
    | some (.dic kvs) => some (kvs.map (·.2))
    | some (.dik kvs) => some (kvs.map (·.2))
    | _ => none
  | _ => none
/-- list(d.values()) -/
def eLVal (fe : ED) : ED := fun ρ S => (fe ρ S).bind fun d S1 => match dvD S1 d with
  | some ds => (match pAll ds with
    | some l => .ok (.lst l) S1
    | none => .st)
  | none => .st
section
variable {X : Cx} {W : WX} {m : List Addr} {S : Sto} {H : Hp} {κ : Addr → Prop}
theorem RD.dv {d : D} {v : V} {ds : List D} (r : Rl (KX X κ) m S H) (h : RD (KX X κ) m S H d v) (e : dvD S d = some ds) : ∃ a ys, v = .ref a ∧ DVals H a ys ∧ ((∃ kvs, H a = some (.dK kvs)) ∨ ∃ kvs, H a = some (.dT kvs)) ∧ RDs (KX X κ) m S H ds ys := by
  unfold dvD at e
  split at e
  · rename_i n
    split at e
    · rename_i kvs q
      cases e
      obtain ⟨a, em, rfl⟩ := h
      obtain ⟨ws, h1, h2⟩ := r.obj n a _ em q
      refine ⟨a, ws.map (·.2), rfl, .inl ⟨ws, h1, rfl⟩, .inr ⟨ws, h1⟩, ?_⟩
      clear q em h1
      induction h2 with
      | nil => exact .nil
      | cons h _ ih => exact .cons h.2 ih
    · rename_i kvs q
      cases e
      obtain ⟨a, em, rfl⟩ := h
      obtain ⟨ws, h1, h2⟩ := r.obj n a _ em q
      refine ⟨a, ws.map (·.2), rfl, .inr ⟨ws, h1, rfl⟩, .inl ⟨ws, h1⟩, ?_⟩
      clear q em h1
      induction h2 with
      | nil => exact .nil
      | cons h _ ih => exact .cons h.2 ih
    · cases e
  · cases e
theorem pAll_ok {ds : List D} {l : List PyData} (e : pAll ds = some l) : ds = l.map .p := by
  induction ds generalizing l with
  | nil => cases e; rfl
  | cons d ds ih =>
    cases d with
    | p d =>
      unfold pAll at e
      cases e2 : pAll ds with
      | none => simp [e2] at e
      | some l2 =>
        simp [e2] at e
        subst e
        rw [List.map_cons, ← ih e2]
    | _ => simp [pAll] at e
theorem de_listV {e : Expr} {fe : ED} {p pos apos mpos : Pos} (hc : X.calm = true) (he : DE X W e fe) (hg : Gl X "list") (hm : X.mg "list" = none)
    (hbase : attributeBase e "values" X.env (eval e X.env) = eval e X.env := by rfl) (hline : (apos.endLine == mpos.line) = true := by rfl)
    (h1 : starEach [Expr.Call (.Attribute e "values" apos) [] [] mpos] X.env = (false, eval (Expr.Call (.Attribute e "values" apos) [] [] mpos) X.env) :: starEach [] X.env := by rfl) :
    DE X W (.Call (.Name "list" p) [.Call (.Attribute e "values" apos) [] [] mpos] [] pos) (eLVal fe) := by
  obtain ⟨t, q, i⟩ := he
  have pv : PE X (.Call (.Attribute e "values" apos) [] [] mpos) (tBM0 X.K "dict" rVals t) := pe_bm0 PySem.F.plainAttrs_dict PySem.F.slot_dict_values PySem.F.type_dict_values mt_values q hbase hline
  refine ⟨_, pe_callTy (cr_listV hc) hg hm (by decide +kernel) (pa_cons pv pa_nil h1) (by decide) (by decide) h1 rfl, fun κ ρ S σ H m Q rl re h => ?_⟩
  refine i.seq rl re h fun d S1 v H1 m1 x1 rl1 re1 r1 h1 => ?_
  split at h1
  · rename_i ds e1
    obtain ⟨a, ys, rfl, hv, hty, hrd⟩ := r1.dv rl1 e1
    split at h1
    · rename_i l e2
      refine ⟨.inr (.inr (.inl ⟨rfl, hty⟩)), a, ys, rfl, rfl, hv, fun z hz => ?_⟩
      have nez : ∀ o, H1 a = some o → a ≠ z := fun o e => ne_of_none e hz
      have hv2 : DVals (upd H1 z (valuesO z a)) a ys := by
        rcases hv with ⟨kvs, e, e3⟩ | ⟨kvs, e, e3⟩
        · exact .inl ⟨kvs, by rw [upd_ne (nez _ e)]; exact e, e3⟩
        · exact .inr ⟨kvs, by rw [upd_ne (nez _ e)]; exact e, e3⟩
      have y1 : Nx (KX X κ) m1 S1 H1 m1 S1 (upd H1 z (valuesO z a)) := Nx.new rl1 hz
      have rl2 : Rl (KX X κ) m1 S1 (upd H1 z (valuesO z a)) := rl1.new hz
      refine ⟨z, a, ys, rfl, upd_same, hv2, fun z2 hz2 => ?_⟩
      rw [pAll_ok e2] at hrd
      exact h1.ok' (y1.trans (.new rl2 hz2)) (rl2.new hz2) (newL rl2 hz2 (RDs_p.mp (hrd.nx y1)))
    · exact h1.elim
  · exact h1.elim
end
end DL

/-! sorted(l) of a list of pairs of ints, no two alike -/
namespace DL
open PySem PySem.Spec PyProof.Rows L2
abbrev ltp (a b : Int × Int) : Prop := a.1 < b.1 ∨ (a.1 = b.1 ∧ a.2 < b.2)
def insP (k : Int × Int) : List (Int × Int) → List (Int × Int)
  | [] => [k]
  | x :: l => if ltp k x then k :: x :: l else x :: insP k l
def srtP : List (Int × Int) → List (Int × Int)
  | [] => []
  | k :: l => insP k (srtP l)
theorem mem_insP {k j : Int × Int} : ∀ {l : List (Int × Int)}, j ∈ insP k l ↔ j = k ∨ j ∈ l
  | [] => by simp [insP]
  | x :: l => by
    unfold insP
    split
    · simp
    · rw [List.mem_cons, mem_insP, List.mem_cons]
      exact ⟨fun z => by rcases z with z | z | z <;> simp [z], fun z => by rcases z with z | z | z <;> simp [z]⟩
theorem mem_srtP {j : Int × Int} : ∀ {l : List (Int × Int)}, j ∈ srtP l ↔ j ∈ l
  | [] => Iff.rfl
  | k :: l => by
    show j ∈ insP k (srtP l) ↔ _
    rw [mem_insP, mem_srtP, List.mem_cons]
theorem ltp_trans {a b c : Int × Int} (h1 : ltp a b) (h2 : ltp b c) : ltp a c := by unfold ltp at *; omega
theorem ltp_tri {a b : Int × Int} (h : a ≠ b) (h2 : ¬ ltp a b) : ltp b a := by
  have : ¬ (a.1 = b.1 ∧ a.2 = b.2) := fun z => h (Prod.ext z.1 z.2)
  unfold ltp at *
  omega
theorem insP_sorted {k : Int × Int} : ∀ {l : List (Int × Int)}, l.Pairwise ltp → k ∉ l → (insP k l).Pairwise ltp
  | [], _, _ => by simp [insP]
  | x :: l, h, hk => by
    obtain ⟨h1, h2⟩ := List.pairwise_cons.mp h
    unfold insP
    split
    · rename_i lt
      refine List.pairwise_cons.mpr ⟨fun y hy => ?_, h⟩
      rcases List.mem_cons.mp hy with z | z
      · rw [z]; exact lt
      · exact ltp_trans lt (h1 y z)
    · rename_i ge
      refine List.pairwise_cons.mpr ⟨fun y hy => ?_, insP_sorted h2 fun z => hk (List.mem_cons_of_mem _ z)⟩
      rcases mem_insP.mp hy with z | z
      · rw [z]
        exact ltp_tri (fun e => hk (by rw [e]; exact List.mem_cons_self)) ge
      · exact h1 y z
theorem srtP_sorted : ∀ {l : List (Int × Int)}, l.Nodup → (srtP l).Pairwise ltp
  | [], _ => .nil
  | k :: l, h => by
    obtain ⟨h1, h2⟩ := List.nodup_cons.mp h
    exact insP_sorted (srtP_sorted h2) fun z => h1 (mem_srtP.mp z)
theorem sorted_oneP : ∀ {l k : List (Int × Int)}, l.Pairwise ltp → k.Pairwise ltp → (∀ j, j ∈ l ↔ j ∈ k) → l = k
  | [], [], _, _, _ => rfl
  | [], y :: k, _, _, h => absurd ((h y).mpr List.mem_cons_self) (by simp)
  | x :: l, [], _, _, h => absurd ((h x).mp List.mem_cons_self) (by simp)
  | x :: l, y :: k, hl, hk, h => by
    obtain ⟨a1, a2⟩ := List.pairwise_cons.mp hl
    obtain ⟨b1, b2⟩ := List.pairwise_cons.mp hk
    have irr : ∀ z : Int × Int, ¬ ltp z z := fun z => by unfold ltp; omega
    have e : x = y := by
      rcases List.mem_cons.mp ((h x).mp List.mem_cons_self) with z | z
      · exact z
      · rcases List.mem_cons.mp ((h y).mpr List.mem_cons_self) with z2 | z2
        · exact z2.symm
        · exact absurd (ltp_trans (a1 y z2) (b1 x z)) (irr x)
    subst e
    rw [sorted_oneP a2 b2 fun j => ?_]
    constructor
    · intro hj
      rcases List.mem_cons.mp ((h j).mp (List.mem_cons_of_mem _ hj)) with z | z
      · exact absurd (a1 j hj) (by rw [z]; exact irr x)
      · exact z
    · intro hj
      rcases List.mem_cons.mp ((h j).mpr (List.mem_cons_of_mem _ hj)) with z | z
      · exact absurd (b1 j hj) (by rw [z]; exact irr x)
      · exact z
def prPy (p : Int × Int) : PyData := .tuple [.int p.1, .int p.2]
def prsD : List PyData → Option (List (Int × Int))
  | [] => some []
  | .tuple [.int i, .int j] :: l => (prsD l).map ((i, j) :: ·)
  | _ => none
theorem prsD_ok : ∀ {l : List PyData} {ps : List (Int × Int)}, prsD l = some ps → l = ps.map prPy
  | [], ps, e => by cases e; rfl
  | d :: l, ps, e => by
    unfold prsD at e
    split at e
    · rename_i h; cases h
    · rename_i i j l' h
      cases h
      cases e2 : prsD l with
      | none => rw [e2] at e; cases e
      | some q =>
        rw [e2] at e
        cases e
        rw [List.map_cons, ← prsD_ok e2]
        rfl
    · cases e
def gSrtP : FD := fun ds S => match ds with
  | [d] => (match vList S d with
    | some l => (match prsD l with
      | some ps => if ps.Nodup then .ok (.lst ((srtP ps).map prPy)) S else .st
      | none => .st)
    | none => .st)
  | _ => .st
section
variable {X : Cx} {W : WX}
/-- the pair at a place -/
def kOf (H : Hp) : V → Int × Int
  | .ref t => (match H t with
    | some (.tup [.int i, .int j]) => (i, j)
    | _ => (0, 0))
  | _ => (0, 0)
theorem rp_pair {K : Kh} {H : Hp} {L : Addr → Prop} {p : Int × Int} {v : V} (h : RP K H L (prPy p) v) : ∃ t, v = .ref t ∧ H t = some (.tup [.int p.1, .int p.2]) ∧ kOf H v = p := by
  unfold prPy at h
  rw [RP] at h
  obtain ⟨a, vs, rfl, h1, h2⟩ := h
  rw [RPs] at h2
  obtain ⟨v1, r1, rfl, q1, h2⟩ := h2
  rw [RPs] at h2
  obtain ⟨v2, r2, rfl, q2, h2⟩ := h2
  rw [RPs] at h2
  subst h2
  rw [RP] at q1 q2
  subst q1 q2
  exact ⟨a, rfl, h1, by simp only [kOf, h1]⟩
theorem cd_srtP : CD X W (.builtin "sorted") gSrtP := by
  refine ⟨_, cr_sortedPO, fun κ ds vs m S H σ Q rl rd h => ?_⟩
  unfold gSrtP at h
  split at h
  · split at h
    · rename_i l e1
      split at h
      · rename_i ps e2
        split at h
        · rename_i hnd
          obtain ⟨v, rfl, r⟩ := RDs1 rd
          obtain ⟨a, xs, rfl, h1, h2⟩ := r.vlist rl e1
          rw [prsD_ok e2, RPs_iff] at h2
          have hx : ∀ x ∈ xs, ∃ p ∈ ps, RP (KX X κ) H (lv (KX X κ) m S) (prPy p) x := fun x hx => by
            obtain ⟨i, hi⟩ := List.mem_iff_getElem?.mp hx
            obtain ⟨d, hd, hr⟩ := pairGetR h2 hi
            rw [List.getElem?_map] at hd
            cases hp : ps[i]? with
            | none => rw [hp] at hd; cases hd
            | some p =>
              rw [hp] at hd
              cases hd
              exact ⟨p, List.mem_of_getElem? hp, hr⟩
          have hmap : xs.map (kOf H) = ps := by
            clear hx hnd h e2 h1 rd r e1
            induction ps generalizing xs with
            | nil => cases h2; rfl
            | cons p ps ih =>
              cases h2 with
              | cons q1 q2 =>
                obtain ⟨_, _, _, e⟩ := rp_pair q1
                rw [List.map_cons, e, ih _ q2]
          refine ⟨a, xs, kOf H, rfl, .of h1, fun x hx' => ?_, fun ys z hs hst hz => ?_⟩
          · obtain ⟨p, _, hr⟩ := hx x hx'
            obtain ⟨t, e, ht, ek⟩ := rp_pair hr
            exact ⟨t, e, by rw [ek]; exact ht⟩
          · have hperm : (ys.map (kOf H)).Perm ps := by rw [← hmap]; exact hst.perm.map _
            have hn2 : (ys.map (kOf H)).Nodup := hperm.nodup_iff.mpr hnd
            have hsrt : (ys.map (kOf H)).Pairwise ltp := by
              have a1 : (ys.map (kOf H)).Pairwise fun x y => ¬ ltp y x := List.pairwise_map.mpr (hs.imp fun {x y} h => by
                have := SrtO.lexB_no.mp h
                exact this)
              exact (List.pairwise_and_iff.mpr ⟨a1, hn2⟩).imp fun {x y} ⟨q1, q2⟩ => ltp_tri (fun e => q2 e.symm) q1
            have hys : ys.map (kOf H) = srtP ps := sorted_oneP hsrt (srtP_sorted hnd) fun j => by rw [mem_srtP]; exact hperm.mem_iff
            refine h.ok' (.new rl hz) (rl.new hz) (newL rl hz ?_)
            rw [← hys, RPs_iff]
            have key : ∀ y ∈ ys, RP (KX X κ) H (lv (KX X κ) m S) (prPy (kOf H y)) y := fun y hy => by
              obtain ⟨p, _, hr⟩ := hx y (hst.perm.mem_iff.mp hy)
              obtain ⟨_, _, _, e⟩ := rp_pair hr
              rw [e]
              exact hr
            clear hsrt hperm hn2 hys hs hst
            induction ys with
            | nil => exact .nil
            | cons y ys ih => exact .cons (key y List.mem_cons_self) (ih fun y hy => key y (List.mem_cons_of_mem _ hy))
        · exact h.elim
      · exact h.elim
    · exact h.elim
  · exact h.elim
end
end DL

/-! defs that are called where no repr is under way -/
namespace DL
open PySem PySem.Spec PyProof.Rows L2
structure FnG (P : Program) (w : World) (K : PySem.W.Frag) (mg : Str → Option Value) (base : Heap) (k : Nat) (x : Str) (n : Nat) (g : FD) : Prop where
  ex : ∃ (f : Addr) (fd : FuncData) (ps : List Str), ps.length = n ∧ mg x = some (.ref f) ∧ PySem.W.keepIn K (.ref f) = true ∧ Binds K fd ps [] ∧
    ∀ (A : Around) (outer : List PySem.Env) (s : Shared) (H : Hp) (args : Args) (us : List Value) (vs : List V) (Q : VK) (E : XK), Room k A → A.guards = some [] → Env0 P w K mg base A outer s H → BindsTo s fd args (ps.zip us) → Vals vs us →
      spOf K mg n (fun ds S => noEx (g ds S)) vs H Q E → codeAny (model P w) A (.call (.ref f) args) (CR CX0 outer P w H s Q E) s
section
variable {P : Program} {w : World} {K : PySem.W.Frag} {mg : Str → Option Value} {base : Heap}
theorem fn_dlG {x : Str} {st : Stmt} {f : Addr} {fd : FuncData} {N ps : List Str} {k n : Nat} {F : SD} (Fu : FunS K x st f fd) (Sc : FnScope N ps (defScope st)) (gm : mg x = some (.ref f)) (bd : BindsAs x st ps) (hn : ps.length = n)
    (body : ∀ (cdv : Value) (A : Around) (outer : List PySem.Env) (s : Shared) (H : Hp) (E : XK), Room k (A.deeper (envOfC x (defScope st) s.heap.objs.size f cdv)) → (A.deeper (envOfC x (defScope st) s.heap.objs.size f cdv)).guards = some [] →
      DSs (cxOf CX0 P w K mg base N x (defScope st) f cdv A outer s H E).nox (fun _ _ _ _ => False) (defBody st) F) : FnG P w K mg base (k + 1) x n (gB N F) :=
  ⟨f, fd, ps, hn, gm, Fu.kp, Fu.bindsN bd, fun A outer s H args us vs Q E hr hgd e0 hb rv h => run_at Fu Sc hr hgd body hn e0 hb rv h⟩
end
section
variable {X : Cx} {W : WX} {o e : Expr} {es : List Expr} {pos apos : Pos} {fo : ED} {ga : AD}
theorem de_callG {k j n : Nat} {x : Str} {p : Pos} {g : FD} (F : FnG X.prog X.w X.K X.mg X.base k x n g) (hgd : X.A.guards = some []) (hr : Room j X.A) (hk : k ≤ j) (hg : Gl X x) (ha : DA X W (e :: es) ga)
    (hd : (x == ("__debug__" : Str)) = false := by decide) (hs : starEach (e :: es) X.env = (false, eval e X.env) :: starEach es X.env := by rfl)
    (hp : (backTo pos (starEach es X.env)).any (·.1) = false := by rfl) : DE X W (.Call (.Name x p) (e :: es) [] pos) (eCall n g ga) := by
  obtain ⟨f, fd, ps, hl, gm, kp, bd, run⟩ := F
  obtain ⟨t, q, i⟩ := ha
  have pe : PE X (.Call (.Name x p) (e :: es) [] pos) (fun σ H Q => t σ H fun vs H1 => spOf X.K X.mg n (fun ds S => noEx (g ds S)) vs H1 Q (fun _ _ _ => False)) := by
    refine ⟨fun pins s σ H Q I h => ?_⟩
    refine wpAny_Call_Name_kw (ld_glob I hg gm ?_ hd)
    refine PySem.W.callWith_K (h₀ := X.base) I.ok.mod.kin kp (thn (q.run pos pins s σ H _ I h) fun us s1 ⟨vs, H1, I1, r, q⟩ => ⟨I1.kIn, ?_⟩) hs hp
    have hlv : (us ++ []).length = ps.length := by rw [List.append_nil, ← r.length, q.1, hl]
    have hb := bd s1 us I1.kIn hlv
    rw [List.append_nil] at hb
    refine wpAny_call (codeAny_mono (run X.A X.stack s1 H1 ⟨us, []⟩ us vs Q (fun _ _ _ => False) (hr.mono hk) hgd I1.env0 hb r q) fun rr s' hq => ?_)
    cases rr with
    | error e => exact pass0 pins σ H1 s1 e s' I1 hq
    | ok fl =>
      cases fl with
      | ret u => exact I1.after hq
      | next => exact False.elim hq
      | brk => exact False.elim hq
      | cont => exact False.elim hq
  refine ⟨_, pe, fun κ ρ S σ H m Q rl re h => ?_⟩
  refine i.seq rl re h fun d S1 v H1 m1 x1 rl1 re1 r1 h1 => ?_
  split at h1
  · rename_i hn
    exact ⟨by rw [← pairLen r1]; exact hn, κ, d, S1, m1, rl1, r1, PostF.no h1⟩
  · exact h1.elim
end
end DL

namespace My
open PySem PySem.Spec PyProof.Rows L2 DL
theorem units65 {k : Nat} {A : Around} (r : Room k A) : A.units + 65 < cLine := by have := r.un; omega
def topS (i : Nat) : Stmt := PySem.Challenge.pw_surelyread_k16_spots_reach.main.body.getD i (.Pass ⟨0, 0, 0, 0⟩)
def subS (st : Stmt) (k : Nat) : Stmt := match st with
  | .ClassDef (body := b) .. => b.getD k (.Pass ⟨0, 0, 0, 0⟩)
  | _ => .Pass ⟨0, 0, 0, 0⟩
abbrev s_wall : Stmt := topS 0
abbrev NN_wall : List Str := ["k"]
theorem sc_wall : FnScope NN_wall ["k"] (defScope s_wall) := ⟨rfl, rfl, rfl, by decide +kernel, rfl, by decide +kernel, by decide +kernel⟩
/-- _wall -/
noncomputable def B_wall : SD := sWhile 100000 (bTru (eC (.bool true))) (sNil)
theorem d_wall {P : Program} {w : World} {K : PySem.W.Frag} {mg : Str → Option Value} {base : Heap} {j : Nat} {cdv : Value} {A : Around} {outer : List PySem.Env} {s : Shared} {H : Hp} {E : XK} {f : Addr} (hr : Room j (A.deeper (envOfC "_wall" (defScope s_wall) s.heap.objs.size f cdv))) :
    DSs (cxOf CX0 P w K mg base NN_wall "_wall" (defScope s_wall) f cdv A outer s H E).nox (fun _ _ _ _ => False) (defBody s_wall) (B_wall) := by
  have hu := hr.units
  have hu1 := units65 hr
  exact dss_one (ds_while PassesOwn.never (dt_truth (de_bl)) (dss_one (ds_pass)))
abbrev s_is_strip : Stmt := topS 2
abbrev NN_is_strip : List Str := ["part"]
theorem sc_is_strip : FnScope NN_is_strip ["part"] (defScope s_is_strip) := ⟨rfl, rfl, rfl, by decide +kernel, rfl, by decide +kernel, by decide +kernel⟩
/-- is_strip -/
noncomputable def B_is_strip : SD := sRetR (eBin (gInA false) (eBin gIx (eVar 0) (eC (.int 0))) (eTup (aCons (eC (.str "across")) (aCons (eC (.str "down")) (aNil)))))
theorem d_is_strip {P : Program} {w : World} {K : PySem.W.Frag} {mg : Str → Option Value} {base : Heap} {j : Nat} {cdv : Value} {A : Around} {outer : List PySem.Env} {s : Shared} {H : Hp} {E : XK} {f : Addr} (hr : Room j (A.deeper (envOfC "is_strip" (defScope s_is_strip) s.heap.objs.size f cdv))) :
    DSs (cxOf CX0 P w K mg base NN_is_strip "is_strip" (defScope s_is_strip) f cdv A outer s H E).nox (fun _ _ _ _ => False) (defBody s_is_strip) (B_is_strip) := by
  have hu := hr.units
  have hu1 := units65 hr
  exact dss_one (ds_retR (de_cmp (od_inA hu1) (de_ix (dv 0) (de_int) (fun _ _ => rfl)) (de_tup (da_cons (de_str) (da_cons (de_str) (da_nil)))) (by rfl)))
abbrev s_extent : Stmt := topS 3
abbrev NN_extent : List Str := ["part", "region"]
theorem sc_extent : FnScope NN_extent ["part", "region"] (defScope s_extent) := ⟨rfl, rfl, rfl, by decide +kernel, rfl, by decide +kernel, by decide +kernel⟩
/-- extent -/
noncomputable def B_extent : SD := sRetR (eIf (asB (eBin (gEq false) (eBin gIx (eVar 0) (eC (.int 0))) (eC (.str "across")))) (eBin gIx (eVar 1) (eC (.int 3))) (eBin gIx (eVar 1) (eC (.int 4))))
theorem d_extent {P : Program} {w : World} {K : PySem.W.Frag} {mg : Str → Option Value} {base : Heap} {j : Nat} {cdv : Value} {A : Around} {outer : List PySem.Env} {s : Shared} {H : Hp} {E : XK} {f : Addr} (hr : Room j (A.deeper (envOfC "extent" (defScope s_extent) s.heap.objs.size f cdv))) :
    DSs (cxOf CX0 P w K mg base NN_extent "extent" (defScope s_extent) f cdv A outer s H E).nox (fun _ _ _ _ => False) (defBody s_extent) (B_extent) := by
  have hu := hr.units
  have hu1 := units65 hr
  exact dss_one (ds_retR (de_if (dt_cmp (od_eq hu) (de_ix (dv 0) (de_int) (fun _ _ => rfl)) (de_str) (nomark _)) (de_ix (dv 1) (de_int) (fun _ _ => rfl)) (de_ix (dv 1) (de_int) (fun _ _ => rfl))))
abbrev s_list_places : Stmt := topS 4
abbrev NN_list_places : List Str := ["expression", "found", "item"]
theorem sc_list_places : FnScope NN_list_places ["expression"] (defScope s_list_places) := ⟨rfl, rfl, rfl, by decide +kernel, rfl, by decide +kernel, by decide +kernel⟩
/-- list_places -/
noncomputable def B_list_places (g_list_places : FD) : SD := sSeq (sIf (asB (eBin (gEq false) (eBin gIx (eVar 0) (eC (.int 0))) (eC (.str "place")))) (sRetR (eLst (aCons (eVar 0) (aNil)))) (sNil)) (sSeq (sIf (asB (eBin (gInA false) (eBin gIx (eVar 0) (eC (.int 0))) (eTup (aCons (eC (.str "sequence")) (aCons (eC (.str "choice")) (aNil)))))) (sSeq (sSet 1 (eLstO (aNil))) (sSeq (sFor (iTpl (eBin gIx (eVar 0) (eC (.int 1)))) (gNm 2) (sExpr (eMth gExt (eVar 1) (aCons (eCall 1 g_list_places (aCons (eVar 2) (aNil))) (aNil))))) (sRetR (eVar 1)))) (sNil)) (sRetR (eCall 1 g_list_places (aCons (eBin gIx (eVar 0) (eC (.int 1))) (aNil)))))
theorem d_list_places {P : Program} {w : World} {K : PySem.W.Frag} {mg : Str → Option Value} {base : Heap} {j : Nat} {g_list_places : FD} {k_list_places : Nat} (F_list_places : FnD P w K mg base k_list_places "list_places" 1 g_list_places) (hk_list_places : k_list_places ≤ j) {cdv : Value} {A : Around} {outer : List PySem.Env} {s : Shared} {H : Hp} {E : XK} {f : Addr} (hr : Room j (A.deeper (envOfC "list_places" (defScope s_list_places) s.heap.objs.size f cdv))) :
    DSs (cxOf CX0 P w K mg base NN_list_places "list_places" (defScope s_list_places) f cdv A outer s H E).nox (fun _ _ _ _ => False) (defBody s_list_places) (B_list_places g_list_places) := by
  have hu := hr.units
  have hu1 := units65 hr
  exact dss_cons (ds_if (dt_cmp (od_eq hu) (de_ix (dv 0) (de_int) (fun _ _ => rfl)) (de_str) (nomark _)) (dss_one (ds_retR (de_lst (da_cons (dv 0) (da_nil))))) (dss_nil)) (dss_cons (ds_if (dt_cmp (od_inA hu1) (de_ix (dv 0) (de_int) (fun _ _ => rfl)) (de_tup (da_cons (de_str) (da_cons (de_str) (da_nil)))) (by rfl)) (dss_cons (dset 1 sc_list_places.nd (de_lstO (da_nil))) (dss_cons (ds_for PassesOwn.never rfl (di_tup (de_ix (dv 0) (de_int) (fun _ _ => rfl))) (dgn 2 sc_list_places.nd) (dss_one (ds_expr (de_mth md_extend PySem.F.slot_list_extend PySem.F.type_list_extend (dv 1) (da_cons (de_call F_list_places hr hk_list_places rfl (da_cons (dv 2) (da_nil))) (da_nil)))))) (dss_one (ds_retR (dv 1))))) (dss_nil)) (dss_one (ds_retR (de_call F_list_places hr hk_list_places rfl (da_cons (de_ix (dv 0) (de_int) (fun _ _ => rfl)) (da_nil))))))
abbrev s_outline : Stmt := topS 5
abbrev NN_outline : List Str := ["expression", "number", "empty", "first", "last", "pairs"]
theorem sc_outline : FnScope NN_outline ["expression", "number"] (defScope s_outline) := ⟨rfl, rfl, rfl, by decide +kernel, rfl, by decide +kernel, by decide +kernel⟩
/-- outline -/
noncomputable def B_outline (g_outline : FD) (g_outline_of_sequence : FD) (g_outline_of_choice : FD) (g_all_pairs : FD) : SD := sSeq (sIf (asB (eBin (gEq false) (eBin gIx (eVar 0) (eC (.int 0))) (eC (.str "place")))) (sRetR (eTup (aCons (eC (.bool false)) (aCons (eLst (aCons (eVar 1) (aNil))) (aCons (eLst (aCons (eVar 1) (aNil))) (aCons (eLst (aNil)) (aNil))))))) (sNil)) (sSeq (sIf (asB (eBin (gEq false) (eBin gIx (eVar 0) (eC (.int 0))) (eC (.str "sequence")))) (sRetR (eCall 2 g_outline_of_sequence (aCons (eBin gIx (eVar 0) (eC (.int 1))) (aCons (eVar 1) (aNil))))) (sNil)) (sSeq (sIf (asB (eBin (gEq false) (eBin gIx (eVar 0) (eC (.int 0))) (eC (.str "choice")))) (sRetR (eCall 2 g_outline_of_choice (aCons (eBin gIx (eVar 0) (eC (.int 1))) (aCons (eVar 1) (aNil))))) (sNil)) (sSeq (sAsg (eCall 2 g_outline (aCons (eBin gIx (eVar 0) (eC (.int 1))) (aCons (eVar 1) (aNil)))) (gTupD 4 (gsCons (gNm 2) (gsCons (gNm 3) (gsCons (gNm 4) (gsCons (gNm 5) (gsNil))))))) (sSeq (sIf (asB (eBin (gEq false) (eBin gIx (eVar 0) (eC (.int 0))) (eC (.str "maybe")))) (sRetR (eTup (aCons (eC (.bool true)) (aCons (eVar 3) (aCons (eVar 4) (aCons (eVar 5) (aNil))))))) (sNil)) (sRetR (eTup (aCons (eOr (eVar 2) (eBin (gEq false) (eBin gIx (eVar 0) (eC (.int 0))) (eC (.str "any")))) (aCons (eVar 3) (aCons (eVar 4) (aCons (eBin gAdd (eVar 5) (eCall 2 g_all_pairs (aCons (eVar 4) (aCons (eVar 3) (aNil))))) (aNil)))))))))))
theorem d_outline {P : Program} {w : World} {K : PySem.W.Frag} {mg : Str → Option Value} {base : Heap} {j : Nat} {g_outline : FD} {k_outline : Nat} (F_outline : FnD P w K mg base k_outline "outline" 2 g_outline) (hk_outline : k_outline ≤ j) {g_outline_of_sequence : FD} {k_outline_of_sequence : Nat} (F_outline_of_sequence : FnD P w K mg base k_outline_of_sequence "outline_of_sequence" 2 g_outline_of_sequence) (hk_outline_of_sequence : k_outline_of_sequence ≤ j) {g_outline_of_choice : FD} {k_outline_of_choice : Nat} (F_outline_of_choice : FnD P w K mg base k_outline_of_choice "outline_of_choice" 2 g_outline_of_choice) (hk_outline_of_choice : k_outline_of_choice ≤ j) {g_all_pairs : FD} {k_all_pairs : Nat} (F_all_pairs : FnD P w K mg base k_all_pairs "all_pairs" 2 g_all_pairs) (hk_all_pairs : k_all_pairs ≤ j) {cdv : Value} {A : Around} {outer : List PySem.Env} {s : Shared} {H : Hp} {E : XK} {f : Addr} (hr : Room j (A.deeper (envOfC "outline" (defScope s_outline) s.heap.objs.size f cdv))) :
    DSs (cxOf CX0 P w K mg base NN_outline "outline" (defScope s_outline) f cdv A outer s H E).nox (fun _ _ _ _ => False) (defBody s_outline) (B_outline g_outline g_outline_of_sequence g_outline_of_choice g_all_pairs) := by
  have hu := hr.units
  have hu1 := units65 hr
  exact dss_cons (ds_if (dt_cmp (od_eq hu) (de_ix (dv 0) (de_int) (fun _ _ => rfl)) (de_str) (nomark _)) (dss_one (ds_retR (de_tup (da_cons (de_bl) (da_cons (de_lst (da_cons (dv 1) (da_nil))) (da_cons (de_lst (da_cons (dv 1) (da_nil))) (da_cons (de_lst (da_nil)) (da_nil)))))))) (dss_nil)) (dss_cons (ds_if (dt_cmp (od_eq hu) (de_ix (dv 0) (de_int) (fun _ _ => rfl)) (de_str) (nomark _)) (dss_one (ds_retR (de_call F_outline_of_sequence hr hk_outline_of_sequence rfl (da_cons (de_ix (dv 0) (de_int) (fun _ _ => rfl)) (da_cons (dv 1) (da_nil)))))) (dss_nil)) (dss_cons (ds_if (dt_cmp (od_eq hu) (de_ix (dv 0) (de_int) (fun _ _ => rfl)) (de_str) (nomark _)) (dss_one (ds_retR (de_call F_outline_of_choice hr hk_outline_of_choice rfl (da_cons (de_ix (dv 0) (de_int) (fun _ _ => rfl)) (da_cons (dv 1) (da_nil)))))) (dss_nil)) (dss_cons (ds_asg (de_call F_outline hr hk_outline rfl (da_cons (de_ix (dv 0) (de_int) (fun _ _ => rfl)) (da_cons (dv 1) (da_nil)))) (dg_tup rfl (dgs_cons (dgn 2 sc_outline.nd) (dgs_cons (dgn 3 sc_outline.nd) (dgs_cons (dgn 4 sc_outline.nd) (dgs_cons (dgn 5 sc_outline.nd) (dgs_nil))))))) (dss_cons (ds_if (dt_cmp (od_eq hu) (de_ix (dv 0) (de_int) (fun _ _ => rfl)) (de_str) (nomark _)) (dss_one (ds_retR (de_tup (da_cons (de_bl) (da_cons (dv 3) (da_cons (dv 4) (da_cons (dv 5) (da_nil)))))))) (dss_nil)) (dss_one (ds_retR (de_tup (da_cons (de_or (dv 2) (de_one (de_cmp (od_eq hu) (de_ix (dv 0) (de_int) (fun _ _ => rfl)) (de_str) (nomark _)))) (da_cons (dv 3) (da_cons (dv 4) (da_cons (de_bin od_add (dv 5) (de_call F_all_pairs hr hk_all_pairs rfl (da_cons (dv 4) (da_cons (dv 3) (da_nil))))) (da_nil))))))))))))
abbrev s_all_pairs : Stmt := topS 6
abbrev NN_all_pairs : List Str := ["ahead", "behind", "one", "other"]
theorem sc_all_pairs : FnScope NN_all_pairs ["ahead", "behind"] (defScope s_all_pairs) := ⟨rfl, rfl, rfl, by decide +kernel, rfl, by decide +kernel, by decide +kernel⟩
/-- all_pairs -/
noncomputable def B_all_pairs : SD := sRetR (eLc2 (iLst (eVar 0)) (gNm 2) (bYes) (iFzL (eVar 1)) (gNm 3) (bYes) (eTup (aCons (eVar 2) (aCons (eVar 3) (aNil)))) [2, 3] [3])
theorem d_all_pairs {P : Program} {w : World} {K : PySem.W.Frag} {mg : Str → Option Value} {base : Heap} {j : Nat} {cdv : Value} {A : Around} {outer : List PySem.Env} {s : Shared} {H : Hp} {E : XK} {f : Addr} (hr : Room j (A.deeper (envOfC "all_pairs" (defScope s_all_pairs) s.heap.objs.size f cdv))) :
    DSs (cxOf CX0 P w K mg base NN_all_pairs "all_pairs" (defScope s_all_pairs) f cdv A outer s H E).nox (fun _ _ _ _ => False) (defBody s_all_pairs) (B_all_pairs) := by
  have hu := hr.units
  have hu1 := units65 hr
  exact dss_one (ds_retR (de_lc2 (own := [("one", 2), ("other", 3)]) (vs1 := [3]) rfl sc_all_pairs.nd (di_lst (dv 0)) (blkOk_by (N := NN_all_pairs) (sc := defScope s_all_pairs) (by decide +kernel)) (by decide) (fun _ _ _ _ _ => dgw 2 sc_all_pairs.nd (by decide)) (fun _ _ _ _ _ => dts_nil) (fun _ _ _ _ _ => dif_lst (dv 1)) (fun _ _ _ _ _ => dgw 3 sc_all_pairs.nd (by decide)) (fun _ _ _ _ _ => dts_nil) (fun _ _ _ _ _ => de_tup (da_cons (dv 2) (da_cons (dv 3) (da_nil))))))
abbrev s_outline_of_sequence : Stmt := topS 7
abbrev NN_outline_of_sequence : List Str := ["items", "number", "item", "empty", "first", "last", "pairs", "item_empty", "item_first", "item_last", "item_pairs"]
theorem sc_outline_of_sequence : FnScope NN_outline_of_sequence ["items", "number"] (defScope s_outline_of_sequence) := ⟨rfl, rfl, rfl, by decide +kernel, rfl, by decide +kernel, by decide +kernel⟩
/-- outline_of_sequence -/
noncomputable def B_outline_of_sequence (g_outline : FD) (g_all_pairs : FD) (g_list_places : FD) : SD := sSeq (sAsg (eTup (aCons (eC (.bool true)) (aCons (eLst (aNil)) (aCons (eLst (aNil)) (aCons (eLst (aNil)) (aNil)))))) (gTupD 4 (gsCons (gNm 3) (gsCons (gNm 4) (gsCons (gNm 5) (gsCons (gNm 6) (gsNil))))))) (sSeq (sFor (iTpl (eVar 0)) (gNm 2) (sSeq (sAsg (eCall 2 g_outline (aCons (eVar 2) (aCons (eVar 1) (aNil)))) (gTupD 4 (gsCons (gNm 7) (gsCons (gNm 8) (gsCons (gNm 9) (gsCons (gNm 10) (gsNil))))))) (sSeq (sSet 6 (eBin gAdd (eBin gAdd (eVar 6) (eVar 10)) (eCall 2 g_all_pairs (aCons (eVar 5) (aCons (eVar 8) (aNil)))))) (sSeq (sIf (bTru (eVar 3)) (sSet 4 (eBin gAdd (eVar 4) (eVar 8))) (sNil)) (sSeq (sSet 5 (eIf (bTru (eVar 7)) (eBin gAdd (eVar 5) (eVar 9)) (eVar 9))) (sSeq (sSet 3 (eAnd (eVar 3) (eVar 7))) (sAug 1 (eB gLen (aCons (eCall 1 g_list_places (aCons (eVar 2) (aNil))) (aNil))) gAddI))))))) (sRetR (eTup (aCons (eVar 3) (aCons (eVar 4) (aCons (eVar 5) (aCons (eVar 6) (aNil))))))))
theorem d_outline_of_sequence {P : Program} {w : World} {K : PySem.W.Frag} {mg : Str → Option Value} {base : Heap} {j : Nat} {g_outline : FD} {k_outline : Nat} (F_outline : FnD P w K mg base k_outline "outline" 2 g_outline) (hk_outline : k_outline ≤ j) {g_all_pairs : FD} {k_all_pairs : Nat} (F_all_pairs : FnD P w K mg base k_all_pairs "all_pairs" 2 g_all_pairs) (hk_all_pairs : k_all_pairs ≤ j) {g_list_places : FD} {k_list_places : Nat} (F_list_places : FnD P w K mg base k_list_places "list_places" 1 g_list_places) (hk_list_places : k_list_places ≤ j) (m_len : mg "len" = none) {cdv : Value} {A : Around} {outer : List PySem.Env} {s : Shared} {H : Hp} {E : XK} {f : Addr} (hr : Room j (A.deeper (envOfC "outline_of_sequence" (defScope s_outline_of_sequence) s.heap.objs.size f cdv))) :
    DSs (cxOf CX0 P w K mg base NN_outline_of_sequence "outline_of_sequence" (defScope s_outline_of_sequence) f cdv A outer s H E).nox (fun _ _ _ _ => False) (defBody s_outline_of_sequence) (B_outline_of_sequence g_outline g_all_pairs g_list_places) := by
  have hu := hr.units
  have hu1 := units65 hr
  exact dss_cons (ds_asg (de_tup (da_cons (de_bl) (da_cons (de_lst (da_nil)) (da_cons (de_lst (da_nil)) (da_cons (de_lst (da_nil)) (da_nil)))))) (dg_tup rfl (dgs_cons (dgn 3 sc_outline_of_sequence.nd) (dgs_cons (dgn 4 sc_outline_of_sequence.nd) (dgs_cons (dgn 5 sc_outline_of_sequence.nd) (dgs_cons (dgn 6 sc_outline_of_sequence.nd) (dgs_nil))))))) (dss_cons (ds_for PassesOwn.never rfl (di_tup (dv 0)) (dgn 2 sc_outline_of_sequence.nd) (dss_cons (ds_asg (de_call F_outline hr hk_outline rfl (da_cons (dv 2) (da_cons (dv 1) (da_nil)))) (dg_tup rfl (dgs_cons (dgn 7 sc_outline_of_sequence.nd) (dgs_cons (dgn 8 sc_outline_of_sequence.nd) (dgs_cons (dgn 9 sc_outline_of_sequence.nd) (dgs_cons (dgn 10 sc_outline_of_sequence.nd) (dgs_nil))))))) (dss_cons (dset 6 sc_outline_of_sequence.nd (de_bin od_add (de_bin od_add (dv 6) (dv 10)) (de_call F_all_pairs hr hk_all_pairs rfl (da_cons (dv 5) (da_cons (dv 8) (da_nil)))))) (dss_cons (ds_if (dt_truth (dv 3)) (dss_one (dset 4 sc_outline_of_sequence.nd (de_bin od_add (dv 4) (dv 8)))) (dss_nil)) (dss_cons (dset 5 sc_outline_of_sequence.nd (de_if (dt_truth (dv 7)) (de_bin od_add (dv 5) (dv 9)) (dv 9))) (dss_cons (dset 3 sc_outline_of_sequence.nd (de_and (dv 3) (de_one (dv 7)))) (dss_one (daug 1 sc_outline_of_sequence.nd (de_callB cd_len rfl m_len boot_len (da_cons (de_call F_list_places hr hk_list_places rfl (da_cons (dv 2) (da_nil))) (da_nil))) oi_add)))))))) (dss_one (ds_retR (de_tup (da_cons (dv 3) (da_cons (dv 4) (da_cons (dv 5) (da_cons (dv 6) (da_nil)))))))))
abbrev s_outline_of_choice : Stmt := topS 8
abbrev NN_outline_of_choice : List Str := ["items", "number", "item", "empty", "first", "last", "pairs", "item_empty", "item_first", "item_last", "item_pairs"]
theorem sc_outline_of_choice : FnScope NN_outline_of_choice ["items", "number"] (defScope s_outline_of_choice) := ⟨rfl, rfl, rfl, by decide +kernel, rfl, by decide +kernel, by decide +kernel⟩
/-- outline_of_choice -/
noncomputable def B_outline_of_choice (g_outline : FD) (g_list_places : FD) : SD := sSeq (sAsg (eTup (aCons (eC (.bool false)) (aCons (eLst (aNil)) (aCons (eLst (aNil)) (aCons (eLst (aNil)) (aNil)))))) (gTupD 4 (gsCons (gNm 3) (gsCons (gNm 4) (gsCons (gNm 5) (gsCons (gNm 6) (gsNil))))))) (sSeq (sFor (iTpl (eVar 0)) (gNm 2) (sSeq (sAsg (eCall 2 g_outline (aCons (eVar 2) (aCons (eVar 1) (aNil)))) (gTupD 4 (gsCons (gNm 7) (gsCons (gNm 8) (gsCons (gNm 9) (gsCons (gNm 10) (gsNil))))))) (sSeq (sSet 3 (eOr (eVar 3) (eVar 7))) (sSeq (sSet 4 (eBin gAdd (eVar 4) (eVar 8))) (sSeq (sSet 5 (eBin gAdd (eVar 5) (eVar 9))) (sSeq (sSet 6 (eBin gAdd (eVar 6) (eVar 10))) (sAug 1 (eB gLen (aCons (eCall 1 g_list_places (aCons (eVar 2) (aNil))) (aNil))) gAddI))))))) (sRetR (eTup (aCons (eVar 3) (aCons (eVar 4) (aCons (eVar 5) (aCons (eVar 6) (aNil))))))))
theorem d_outline_of_choice {P : Program} {w : World} {K : PySem.W.Frag} {mg : Str → Option Value} {base : Heap} {j : Nat} {g_outline : FD} {k_outline : Nat} (F_outline : FnD P w K mg base k_outline "outline" 2 g_outline) (hk_outline : k_outline ≤ j) {g_list_places : FD} {k_list_places : Nat} (F_list_places : FnD P w K mg base k_list_places "list_places" 1 g_list_places) (hk_list_places : k_list_places ≤ j) (m_len : mg "len" = none) {cdv : Value} {A : Around} {outer : List PySem.Env} {s : Shared} {H : Hp} {E : XK} {f : Addr} (hr : Room j (A.deeper (envOfC "outline_of_choice" (defScope s_outline_of_choice) s.heap.objs.size f cdv))) :
    DSs (cxOf CX0 P w K mg base NN_outline_of_choice "outline_of_choice" (defScope s_outline_of_choice) f cdv A outer s H E).nox (fun _ _ _ _ => False) (defBody s_outline_of_choice) (B_outline_of_choice g_outline g_list_places) := by
  have hu := hr.units
  have hu1 := units65 hr
  exact dss_cons (ds_asg (de_tup (da_cons (de_bl) (da_cons (de_lst (da_nil)) (da_cons (de_lst (da_nil)) (da_cons (de_lst (da_nil)) (da_nil)))))) (dg_tup rfl (dgs_cons (dgn 3 sc_outline_of_choice.nd) (dgs_cons (dgn 4 sc_outline_of_choice.nd) (dgs_cons (dgn 5 sc_outline_of_choice.nd) (dgs_cons (dgn 6 sc_outline_of_choice.nd) (dgs_nil))))))) (dss_cons (ds_for PassesOwn.never rfl (di_tup (dv 0)) (dgn 2 sc_outline_of_choice.nd) (dss_cons (ds_asg (de_call F_outline hr hk_outline rfl (da_cons (dv 2) (da_cons (dv 1) (da_nil)))) (dg_tup rfl (dgs_cons (dgn 7 sc_outline_of_choice.nd) (dgs_cons (dgn 8 sc_outline_of_choice.nd) (dgs_cons (dgn 9 sc_outline_of_choice.nd) (dgs_cons (dgn 10 sc_outline_of_choice.nd) (dgs_nil))))))) (dss_cons (dset 3 sc_outline_of_choice.nd (de_or (dv 3) (de_one (dv 7)))) (dss_cons (dset 4 sc_outline_of_choice.nd (de_bin od_add (dv 4) (dv 8))) (dss_cons (dset 5 sc_outline_of_choice.nd (de_bin od_add (dv 5) (dv 9))) (dss_cons (dset 6 sc_outline_of_choice.nd (de_bin od_add (dv 6) (dv 10))) (dss_one (daug 1 sc_outline_of_choice.nd (de_callB cd_len rfl m_len boot_len (da_cons (de_call F_list_places hr hk_list_places rfl (da_cons (dv 2) (da_nil))) (da_nil))) oi_add)))))))) (dss_one (ds_retR (de_tup (da_cons (dv 3) (da_cons (dv 4) (da_cons (dv 5) (da_cons (dv 6) (da_nil)))))))))
abbrev s_machine : Stmt := topS 9
abbrev NN_machine : List Str := ["choice", "places", "behaviours", "number", "states", "behaviour", "moves", "origin", "empty", "first", "last", "pairs", "behind", "target", "_", "part", "least", "most", "cost", "state", "one", "other"]
theorem sc_machine : FnScope NN_machine ["choice"] (defScope s_machine) := ⟨rfl, rfl, rfl, by decide +kernel, rfl, by decide +kernel, by decide +kernel⟩
/-- machine -/
noncomputable def B_machine (g_outline : FD) (g_list_places : FD) : SD := sSeq (sAsg (eCall 2 g_outline (aCons (eVar 0) (aCons (eC (.int 1)) (aNil)))) (gTupD 4 (gsCons (gNm 8) (gsCons (gNm 9) (gsCons (gNm 10) (gsCons (gNm 11) (gsNil))))))) (sSeq (sSet 1 (eCall 1 g_list_places (aCons (eVar 0) (aNil)))) (sSeq (sSet 2 (eLstO (aCons (eTup (aCons (eVar 8) (aCons (eB gToTup (aCons (eVar 9) (aNil))) (aNil)))) (aNil)))) (sSeq (sFor (iRgB (aCons (eC (.int 1)) (aCons (eBin gAdd (eB gLen (aCons (eVar 1) (aNil))) (eC (.int 1))) (aNil)))) (gNm 3) (sSeq (sSet 12 (eSrtI (iLst (eVar 11)) ((gTupD 2 (gNms [20, 21]))) (asB (eBin (gEq false) (eVar 20) (eVar 3))) (eVar 21) [20, 21])) (sExpr (eMth gApp (eVar 2) (aCons (eTup (aCons (eBin (gInA false) (eVar 3) (eVar 10)) (aCons (eB gToTup (aCons (eVar 12) (aNil))) (aNil)))) (aNil)))))) (sSeq (sSet 4 (eLstO (aNil))) (sSeq (sFor (iLst (eVar 2)) (gNm 5) (sIf (asB (eBin (gInA true) (eVar 5) (eVar 4))) (sExpr (eMth gApp (eVar 4) (aCons (eVar 5) (aNil)))) (sNil))) (sSeq (sSet 6 (eLstO (aNil))) (sSeq (sFor (iRgA (aCons (eB gLen (aCons (eVar 4) (aNil))) (aNil))) (gNm 7) (sFor (iTpl (eBin gIx (eBin gIx (eVar 4) (eVar 7)) (eC (.int 1)))) (gNm 3) (sSeq (sAsg (eBin gIx (eVar 1) (eBin gSub (eVar 3) (eC (.int 1)))) (gTupD 5 (gsCons (gNm 14) (gsCons (gNm 15) (gsCons (gNm 16) (gsCons (gNm 17) (gsCons (gNm 18) (gsNil)))))))) (sSeq (sSet 13 (eMth gIdx (eVar 4) (aCons (eBin gIx (eVar 2) (eVar 3)) (aNil)))) (sExpr (eMth gApp (eVar 6) (aCons (eTup (aCons (eVar 7) (aCons (eVar 13) (aCons (eVar 15) (aCons (eVar 16) (aCons (eVar 17) (aCons (eVar 18) (aNil)))))))) (aNil)))))))) (sRetR (eTup (aCons (eB gToTup (aCons (eLc (iLst (eVar 4)) (gNm 19) (bYes) (eBin gIx (eVar 19) (eC (.int 0))) [19]) (aNil))) (aCons (eB gToTup (aCons (eVar 6) (aNil))) (aNil))))))))))))
theorem d_machine {P : Program} {w : World} {K : PySem.W.Frag} {mg : Str → Option Value} {base : Heap} {j : Nat} {g_outline : FD} {k_outline : Nat} (F_outline : FnD P w K mg base k_outline "outline" 2 g_outline) (hk_outline : k_outline ≤ j) {g_list_places : FD} {k_list_places : Nat} (F_list_places : FnD P w K mg base k_list_places "list_places" 1 g_list_places) (hk_list_places : k_list_places ≤ j) (m_len : mg "len" = none) (m_range : mg "range" = none) (m_sorted : mg "sorted" = none) (m_tuple : mg "tuple" = none) {cdv : Value} {A : Around} {outer : List PySem.Env} {s : Shared} {H : Hp} {E : XK} {f : Addr} (hr : Room j (A.deeper (envOfC "machine" (defScope s_machine) s.heap.objs.size f cdv))) :
    DSs (cxOf CX0 P w K mg base NN_machine "machine" (defScope s_machine) f cdv A outer s H E).nox (fun _ _ _ _ => False) (defBody s_machine) (B_machine g_outline g_list_places) := by
  have hu := hr.units
  have hu1 := units65 hr
  exact dss_cons (ds_asg (de_call F_outline hr hk_outline rfl (da_cons (dv 0) (da_cons (de_int) (da_nil)))) (dg_tup rfl (dgs_cons (dgn 8 sc_machine.nd) (dgs_cons (dgn 9 sc_machine.nd) (dgs_cons (dgn 10 sc_machine.nd) (dgs_cons (dgn 11 sc_machine.nd) (dgs_nil))))))) (dss_cons (dset 1 sc_machine.nd (de_call F_list_places hr hk_list_places rfl (da_cons (dv 0) (da_nil)))) (dss_cons (dset 2 sc_machine.nd (de_lstO (da_cons (de_tup (da_cons (dv 8) (da_cons (de_callT cd_tuple rfl m_tuple (by decide +kernel) (da_cons (dv 9) (da_nil))) (da_nil)))) (da_nil)))) (dss_cons (ds_for PassesOwn.never rfl (di_range2 rfl m_range (da_cons (de_int) (da_cons (de_bin od_add (de_callB cd_len rfl m_len boot_len (da_cons (dv 1) (da_nil))) (de_int)) (da_nil)))) (dgn 3 sc_machine.nd) (dss_cons (dset 12 sc_machine.nd (de_srtI (own := [("one", 20), ("other", 21)]) rfl sc_machine.nd rfl m_sorted (di_lst (dv 11)) (blkOk_by (N := NN_machine) (sc := defScope s_machine) (by decide +kernel)) (fun _ _ _ _ _ => dgw_tup (is := [20, 21]) rfl (pgs_cons (pgn 20 sc_machine.nd) (pgs_cons (pgn 21 sc_machine.nd) (pgs_nil))) (by decide)) (fun _ _ _ _ _ => dts_one (dt_cmp (od_eq hu) (dv 20) (dv 3) (nomark _))) (fun _ _ _ _ _ => dv 21))) (dss_one (ds_expr (de_mth md_append PySem.F.slot_list_append PySem.F.type_list_append (dv 2) (da_cons (de_tup (da_cons (de_cmp (od_inA hu1) (dv 3) (dv 10) (by rfl)) (da_cons (de_callT cd_tuple rfl m_tuple (by decide +kernel) (da_cons (dv 12) (da_nil))) (da_nil)))) (da_nil))))))) (dss_cons (dset 4 sc_machine.nd (de_lstO (da_nil))) (dss_cons (ds_for PassesOwn.never rfl (di_lst (dv 2)) (dgn 5 sc_machine.nd) (dss_one (ds_if (dt_cmp (od_notinA hu1) (dv 5) (dv 4) (by rfl)) (dss_one (ds_expr (de_mth md_append PySem.F.slot_list_append PySem.F.type_list_append (dv 4) (da_cons (dv 5) (da_nil))))) (dss_nil)))) (dss_cons (dset 6 sc_machine.nd (de_lstO (da_nil))) (dss_cons (ds_for PassesOwn.never rfl (di_range1 rfl m_range (da_cons (de_callB cd_len rfl m_len boot_len (da_cons (dv 4) (da_nil))) (da_nil))) (dgn 7 sc_machine.nd) (dss_one (ds_for PassesOwn.never rfl (di_tup (de_ix (de_ix (dv 4) (dv 7) (fun _ _ => rfl)) (de_int) (fun _ _ => rfl))) (dgn 3 sc_machine.nd) (dss_cons (ds_asg (de_ix (dv 1) (de_bin od_sub (dv 3) (de_int)) (fun _ _ => rfl)) (dg_tup rfl (dgs_cons (dgn 14 sc_machine.nd) (dgs_cons (dgn 15 sc_machine.nd) (dgs_cons (dgn 16 sc_machine.nd) (dgs_cons (dgn 17 sc_machine.nd) (dgs_cons (dgn 18 sc_machine.nd) (dgs_nil)))))))) (dss_cons (dset 13 sc_machine.nd (de_mth (md_index hu1) PySem.F.slot_list_index PySem.F.type_list_index (dv 4) (da_cons (de_ix (dv 2) (dv 3) (fun _ _ => rfl)) (da_nil)))) (dss_one (ds_expr (de_mth md_append PySem.F.slot_list_append PySem.F.type_list_append (dv 6) (da_cons (de_tup (da_cons (dv 7) (da_cons (dv 13) (da_cons (dv 15) (da_cons (dv 16) (da_cons (dv 17) (da_cons (dv 18) (da_nil)))))))) (da_nil)))))))))) (dss_one (ds_retR (de_tup (da_cons (de_callT cd_tuple rfl m_tuple (by decide +kernel) (da_cons (de_lc (own := [("state", 19)]) rfl sc_machine.nd (di_lst (dv 4)) (blkOk_by (N := NN_machine) (sc := defScope s_machine) (by decide +kernel)) (fun _ _ _ _ _ => dgw 19 sc_machine.nd (by decide)) (fun _ _ _ _ _ => dts_nil) (fun _ _ _ _ _ => de_ix (dv 19) (de_int) (fun _ _ => rfl))) (da_nil))) (da_cons (de_callT cd_tuple rfl m_tuple (by decide +kernel) (da_cons (dv 6) (da_nil))) (da_nil)))))))))))))
abbrev s_machines : Stmt := topS 10
abbrev NN_machines : List Str := ["parts", "part"]
theorem sc_machines : FnScope NN_machines ["parts"] (defScope s_machines) := ⟨rfl, rfl, rfl, by decide +kernel, rfl, by decide +kernel, by decide +kernel⟩
/-- machines -/
noncomputable def B_machines (g_is_strip : FD) (g_machine : FD) : SD := sRetR (eB gToTup (aCons (eLc (iTpl (eVar 0)) (gNm 1) (bYes) (eIf (bTru (eCall 1 g_is_strip (aCons (eVar 1) (aNil)))) (eCall 1 g_machine (aCons (eBin gIx (eVar 1) (eC (.int 3))) (aNil))) (eTup (aNil))) [1]) (aNil)))
theorem d_machines {P : Program} {w : World} {K : PySem.W.Frag} {mg : Str → Option Value} {base : Heap} {j : Nat} {g_is_strip : FD} {k_is_strip : Nat} (F_is_strip : FnD P w K mg base k_is_strip "is_strip" 1 g_is_strip) (hk_is_strip : k_is_strip ≤ j) {g_machine : FD} {k_machine : Nat} (F_machine : FnD P w K mg base k_machine "machine" 1 g_machine) (hk_machine : k_machine ≤ j) (m_tuple : mg "tuple" = none) {cdv : Value} {A : Around} {outer : List PySem.Env} {s : Shared} {H : Hp} {E : XK} {f : Addr} (hr : Room j (A.deeper (envOfC "machines" (defScope s_machines) s.heap.objs.size f cdv))) :
    DSs (cxOf CX0 P w K mg base NN_machines "machines" (defScope s_machines) f cdv A outer s H E).nox (fun _ _ _ _ => False) (defBody s_machines) (B_machines g_is_strip g_machine) := by
  have hu := hr.units
  have hu1 := units65 hr
  exact dss_one (ds_retR (de_callT cd_tuple rfl m_tuple (by decide +kernel) (da_cons (de_lc (own := [("part", 1)]) rfl sc_machines.nd (di_tup (dv 0)) (blkOk_by (N := NN_machines) (sc := defScope s_machines) (by decide +kernel)) (fun _ _ _ _ _ => dgw 1 sc_machines.nd (by decide)) (fun _ _ _ _ _ => dts_nil) (fun _ _ _ _ _ => de_if (dt_truth (de_call F_is_strip hr hk_is_strip rfl (da_cons (dv 1) (da_nil)))) (de_call F_machine hr hk_machine rfl (da_cons (de_ix (dv 1) (de_int) (fun _ _ => rfl)) (da_nil))) (de_tup (da_nil)))) (da_nil))))
abbrev s_reached : Stmt := topS 12
abbrev NN_reached : List Str := ["machine", "end", "moves", "states", "found", "offset", "here", "state", "_", "number", "size"]
theorem sc_reached : FnScope NN_reached ["machine", "end"] (defScope s_reached) := ⟨rfl, rfl, rfl, by decide +kernel, rfl, by decide +kernel, by decide +kernel⟩
/-- reached -/
noncomputable def B_reached (g_looks_from : FD) : SD := sSeq (sSet 2 (eBin gIx (eVar 0) (eC (.int 1)))) (sSeq (sSet 3 (eLcD (iRgA (aCons (eBin gAdd (eVar 1) (eC (.int 1))) (aNil))) (gNm 8) (bYes) (eDNewK) [8])) (sSeq (sDPtK false (eBin gIx (eVar 3) (eC (.int 0))) (eC (.int 0)) (eC (.bool true))) (sSeq (sSet 4 (eDNew)) (sSeq (sFor (iRgA (aCons (eBin gAdd (eVar 1) (eC (.int 1))) (aNil))) (gNm 5) (sSeq (sSet 6 (eB gSrtDK (aCons (eBin gIx (eVar 3) (eVar 5)) (aNil)))) (sFor (iLst (eVar 6)) (gNm 7) (sSeq (sDPt (eVar 4) (eTup (aCons (eVar 7) (aCons (eVar 5) (aNil)))) (eCall 3 g_looks_from (aCons (eVar 2) (aCons (eVar 7) (aCons (eBin gSub (eVar 1) (eVar 5)) (aNil)))))) (sFor (iLst (eBin gDIx (eVar 4) (eTup (aCons (eVar 7) (aCons (eVar 5) (aNil)))))) (gTupD 2 (gsCons (gNm 9) (gsCons (gNm 10) (gsNil)))) (sDPtK false (eBin gIx (eVar 3) (eBin gAdd (eVar 5) (eVar 10))) (eBin gIx (eBin gIx (eVar 2) (eVar 9)) (eC (.int 1))) (eC (.bool true)))))))) (sRet (eVar 4))))))
theorem d_reached {P : Program} {w : World} {K : PySem.W.Frag} {mg : Str → Option Value} {base : Heap} {j : Nat} {g_looks_from : FD} {k_looks_from : Nat} (F_looks_from : FnD P w K mg base k_looks_from "looks_from" 3 g_looks_from) (hk_looks_from : k_looks_from ≤ j) (m_range : mg "range" = none) (m_sorted : mg "sorted" = none) {cdv : Value} {A : Around} {outer : List PySem.Env} {s : Shared} {H : Hp} {E : XK} {f : Addr} (hr : Room j (A.deeper (envOfC "reached" (defScope s_reached) s.heap.objs.size f cdv))) :
    DSs (cxOf CX0 P w K mg base NN_reached "reached" (defScope s_reached) f cdv A outer s H E).nox (fun _ _ _ _ => False) (defBody s_reached) (B_reached g_looks_from) := by
  have hu := hr.units
  have hu1 := units65 hr
  exact dss_cons (dset 2 sc_reached.nd (de_ix (dv 0) (de_int) (fun _ _ => rfl))) (dss_cons (ds_setLcD 3 (own := [("_", 8)]) sc_reached.nd (di_range1 rfl m_range (da_cons (de_bin od_add (dv 1) (de_int)) (da_nil))) (blkOk_by (N := NN_reached) (sc := defScope s_reached) (by decide +kernel)) (fun _ _ _ _ _ => dgw 8 sc_reached.nd (by decide)) (fun _ _ _ _ _ => dts_nil) (fun _ _ _ _ _ => de_dnewK)) (dss_cons (ds_dputK hu1 (de_ix (dv 3) (de_int) (fun _ _ => rfl)) (de_int) (de_bl)) (dss_cons (dset 4 sc_reached.nd (de_dnew)) (dss_cons (ds_for PassesOwn.never rfl (di_range1 rfl m_range (da_cons (de_bin od_add (dv 1) (de_int)) (da_nil))) (dgn 5 sc_reached.nd) (dss_cons (dset 6 sc_reached.nd (de_callB (cd_srtDK rfl) rfl m_sorted (by decide +kernel) (da_cons (de_ix (dv 3) (dv 5) (fun _ _ => rfl)) (da_nil)))) (dss_one (ds_for PassesOwn.never rfl (di_lst (dv 6)) (dgn 7 sc_reached.nd) (dss_cons (ds_dput hu1 (dv 4) (de_tup (da_cons (dv 7) (da_cons (dv 5) (da_nil)))) (de_call F_looks_from hr hk_looks_from rfl (da_cons (dv 2) (da_cons (dv 7) (da_cons (de_bin od_sub (dv 1) (dv 5)) (da_nil)))))) (dss_one (ds_for PassesOwn.never rfl (di_lst (de_dix hu1 (dv 4) (de_tup (da_cons (dv 7) (da_cons (dv 5) (da_nil)))) (fun _ _ => rfl))) (dg_tup rfl (dgs_cons (dgn 9 sc_reached.nd) (dgs_cons (dgn 10 sc_reached.nd) (dgs_nil)))) (dss_one (ds_dputK hu1 (de_ix (dv 3) (de_bin od_add (dv 5) (dv 10)) (fun _ _ => rfl)) (de_ix (de_ix (dv 2) (dv 9) (fun _ _ => rfl)) (de_int) (fun _ _ => rfl)) (de_bl)))))))))) (dss_one (ds_ret (dv 4)))))))
abbrev s_looks_from : Stmt := topS 13
abbrev NN_looks_from : List Str := ["moves", "state", "left", "looks", "number", "move", "size"]
theorem sc_looks_from : FnScope NN_looks_from ["moves", "state", "left"] (defScope s_looks_from) := ⟨rfl, rfl, rfl, by decide +kernel, rfl, by decide +kernel, by decide +kernel⟩
/-- looks_from -/
noncomputable def B_looks_from : SD := sSeq (sSet 3 (eLstO (aNil))) (sSeq (sFor (iRgA (aCons (eB gLen (aCons (eVar 0) (aNil))) (aNil))) (gNm 4) (sSeq (sSet 5 (eBin gIx (eVar 0) (eVar 4))) (sIf (asB (eBin (gEq false) (eBin gIx (eVar 5) (eC (.int 0))) (eVar 1))) (sExpr (eMth gExt (eVar 3) (aCons (eLc (iRgB (aCons (eBin gIx (eVar 5) (eC (.int 3))) (aCons (eBin gAdd (eB gMin2 (aCons (eBin gIx (eVar 5) (eC (.int 4))) (aCons (eVar 2) (aNil)))) (eC (.int 1))) (aNil)))) (gNm 6) (bYes) (eTup (aCons (eVar 4) (aCons (eVar 6) (aNil)))) [6]) (aNil)))) (sNil)))) (sRetR (eVar 3)))
theorem d_looks_from {P : Program} {w : World} {K : PySem.W.Frag} {mg : Str → Option Value} {base : Heap} {j : Nat} (m_len : mg "len" = none) (m_min : mg "min" = none) (m_range : mg "range" = none) {cdv : Value} {A : Around} {outer : List PySem.Env} {s : Shared} {H : Hp} {E : XK} {f : Addr} (hr : Room j (A.deeper (envOfC "looks_from" (defScope s_looks_from) s.heap.objs.size f cdv))) :
    DSs (cxOf CX0 P w K mg base NN_looks_from "looks_from" (defScope s_looks_from) f cdv A outer s H E).nox (fun _ _ _ _ => False) (defBody s_looks_from) (B_looks_from) := by
  have hu := hr.units
  have hu1 := units65 hr
  exact dss_cons (dset 3 sc_looks_from.nd (de_lstO (da_nil))) (dss_cons (ds_for PassesOwn.never rfl (di_range1 rfl m_range (da_cons (de_callB cd_len rfl m_len boot_len (da_cons (dv 0) (da_nil))) (da_nil))) (dgn 4 sc_looks_from.nd) (dss_cons (dset 5 sc_looks_from.nd (de_ix (dv 0) (dv 4) (fun _ _ => rfl))) (dss_one (ds_if (dt_cmp (od_eq hu) (de_ix (dv 5) (de_int) (fun _ _ => rfl)) (dv 1) (nomark _)) (dss_one (ds_expr (de_mth md_extend PySem.F.slot_list_extend PySem.F.type_list_extend (dv 3) (da_cons (de_lc (own := [("size", 6)]) rfl sc_looks_from.nd (di_range2 rfl m_range (da_cons (de_ix (dv 5) (de_int) (fun _ _ => rfl)) (da_cons (de_bin od_add (de_callB (cd_min2 rfl) rfl m_min (by decide +kernel) (da_cons (de_ix (dv 5) (de_int) (fun _ _ => rfl)) (da_cons (dv 2) (da_nil)))) (de_int)) (da_nil)))) (blkOk_by (N := NN_looks_from) (sc := defScope s_looks_from) (by decide +kernel)) (fun _ _ _ _ _ => dgw 6 sc_looks_from.nd (by decide)) (fun _ _ _ _ _ => dts_nil) (fun _ _ _ _ _ => de_tup (da_cons (dv 4) (da_cons (dv 6) (da_nil))))) (da_nil))))) (dss_nil))))) (dss_one (ds_retR (dv 3))))
abbrev s_spots : Stmt := topS 15
abbrev NN_spots : List Str := ["parts", "region"]
theorem sc_spots : FnScope NN_spots ["parts", "region"] (defScope s_spots) := ⟨rfl, rfl, rfl, by decide +kernel, rfl, by decide +kernel, by decide +kernel⟩
/-- spots -/
noncomputable def B_spots (g_Looks_by_spot : FD) (g_Looks___init__ : FD) : SD := sRetR (eB gToListT (aCons (eMeth "Looks" "by_spot" 2 g_Looks_by_spot (eMake "Looks" 2 g_Looks___init__ (aCons (eVar 0) (aNil))) (aCons (eVar 1) (aNil))) (aNil)))
theorem d_spots {P : Program} {w : World} {K : PySem.W.Frag} {mg : Str → Option Value} {base : Heap} {j : Nat} {g_Looks_by_spot : FD} {k_Looks_by_spot : Nat} (F_Looks_by_spot : FnM P w K mg base k_Looks_by_spot "Looks" "by_spot" 2 g_Looks_by_spot) (hk_Looks_by_spot : k_Looks_by_spot ≤ j) {g_Looks___init__ : FD} {k_Looks___init__ : Nat} (F_Looks___init__ : FnI P w K mg base k_Looks___init__ "Looks" 2 g_Looks___init__) (hk_Looks___init__ : k_Looks___init__ + 1 ≤ j) (m_list : mg "list" = none) {cdv : Value} {A : Around} {outer : List PySem.Env} {s : Shared} {H : Hp} {E : XK} {f : Addr} (hr : Room j (A.deeper (envOfC "spots" (defScope s_spots) s.heap.objs.size f cdv))) :
    DSs (cxOf CX0 P w K mg base NN_spots "spots" (defScope s_spots) f cdv A outer s H E).nox (fun _ _ _ _ => False) (defBody s_spots) (B_spots g_Looks_by_spot g_Looks___init__) := by
  have hu := hr.units
  have hu1 := units65 hr
  exact dss_one (ds_retR (de_callT (cd_listT rfl) rfl m_list (by decide +kernel) (da_cons (de_meth F_Looks_by_spot hr hk_Looks_by_spot (de_make F_Looks___init__ hr hk_Looks___init__ rfl (da_cons (dv 0) (da_nil))) (da_cons (dv 1) (da_nil))) (da_nil))))
abbrev s_look_count : Stmt := topS 16
abbrev NN_look_count : List Str := ["parts", "region"]
theorem sc_look_count : FnScope NN_look_count ["parts", "region"] (defScope s_look_count) := ⟨rfl, rfl, rfl, by decide +kernel, rfl, by decide +kernel, by decide +kernel⟩
/-- look_count -/
noncomputable def B_look_count (g_Looks_count_of : FD) (g_Looks___init__ : FD) : SD := sRetR (eMeth "Looks" "count_of" 2 g_Looks_count_of (eMake "Looks" 2 g_Looks___init__ (aCons (eVar 0) (aNil))) (aCons (eVar 1) (aNil)))
theorem d_look_count {P : Program} {w : World} {K : PySem.W.Frag} {mg : Str → Option Value} {base : Heap} {j : Nat} {g_Looks_count_of : FD} {k_Looks_count_of : Nat} (F_Looks_count_of : FnM P w K mg base k_Looks_count_of "Looks" "count_of" 2 g_Looks_count_of) (hk_Looks_count_of : k_Looks_count_of ≤ j) {g_Looks___init__ : FD} {k_Looks___init__ : Nat} (F_Looks___init__ : FnI P w K mg base k_Looks___init__ "Looks" 2 g_Looks___init__) (hk_Looks___init__ : k_Looks___init__ + 1 ≤ j) {cdv : Value} {A : Around} {outer : List PySem.Env} {s : Shared} {H : Hp} {E : XK} {f : Addr} (hr : Room j (A.deeper (envOfC "look_count" (defScope s_look_count) s.heap.objs.size f cdv))) :
    DSs (cxOf CX0 P w K mg base NN_look_count "look_count" (defScope s_look_count) f cdv A outer s H E).nox (fun _ _ _ _ => False) (defBody s_look_count) (B_look_count g_Looks_count_of g_Looks___init__) := by
  have hu := hr.units
  have hu1 := units65 hr
  exact dss_one (ds_retR (de_meth F_Looks_count_of hr hk_Looks_count_of (de_make F_Looks___init__ hr hk_Looks___init__ rfl (da_cons (dv 0) (da_nil))) (da_cons (dv 1) (da_nil))))
abbrev s_law_cell : Stmt := topS 18
abbrev NN_law_cell : List Str := ["script", "k"]
theorem sc_law_cell : FnScope NN_law_cell ["script", "k"] (defScope s_law_cell) := ⟨rfl, rfl, rfl, by decide +kernel, rfl, by decide +kernel, by decide +kernel⟩
/-- _law_cell -/
noncomputable def B_law_cell : SD := sSeq (sIf (asB (eBin gLt (eVar 1) (eB gLen (aCons (eVar 0) (aNil))))) (sRetR (eBin gIx (eVar 0) (eVar 1))) (sNil)) (sRetR (eC (.int 0)))
theorem d_law_cell {P : Program} {w : World} {K : PySem.W.Frag} {mg : Str → Option Value} {base : Heap} {j : Nat} (m_len : mg "len" = none) {cdv : Value} {A : Around} {outer : List PySem.Env} {s : Shared} {H : Hp} {E : XK} {f : Addr} (hr : Room j (A.deeper (envOfC "_law_cell" (defScope s_law_cell) s.heap.objs.size f cdv))) :
    DSs (cxOf CX0 P w K mg base NN_law_cell "_law_cell" (defScope s_law_cell) f cdv A outer s H E).nox (fun _ _ _ _ => False) (defBody s_law_cell) (B_law_cell) := by
  have hu := hr.units
  have hu1 := units65 hr
  exact dss_cons (ds_if (dt_cmp od_lt (dv 1) (de_callB cd_len rfl m_len boot_len (da_cons (dv 0) (da_nil))) (nomark _)) (dss_one (ds_retR (de_ix (dv 0) (dv 1) (fun _ _ => rfl)))) (dss_nil)) (dss_one (ds_retR (de_int)))
abbrev s_law_digits : Stmt := topS 19
abbrev NN_law_digits : List Str := ["script", "first", "last", "digits", "k", "cell", "turn", "seed"]
theorem sc_law_digits : FnScope NN_law_digits ["script", "first", "last"] (defScope s_law_digits) := ⟨rfl, rfl, rfl, by decide +kernel, rfl, by decide +kernel, by decide +kernel⟩
/-- _law_digits -/
noncomputable def B_law_digits (g_law_cell : FD) : SD := sSeq (sSet 3 (eLstO (aNil))) (sSeq (sFor (iRgB (aCons (eVar 1) (aCons (eVar 2) (aNil)))) (gNm 4) (sSeq (sSet 5 (eCall 2 g_law_cell (aCons (eVar 0) (aCons (eVar 4) (aNil))))) (sSeq (sIf (asB (eBin gLt (eVar 5) (eC (.int 0)))) (sSet 5 (eBin gSub (eC (.int 1)) (eBin gMul (eC (.int 2)) (eVar 5)))) (sNil)) (sIf (asB (eBin gGe (eVar 5) (eBin gPow (eC (.int 10)) (eC (.int 18))))) (sFor (iRgA (aCons (eC (.int 60)) (aNil))) (gNm 6) (sIf (asB (eBin gGt (eVar 5) (eC (.int 0)))) (sSeq (sExpr (eMth gApp (eVar 3) (aCons (eBin gMod (eB gToInt (aCons (eVar 5) (aNil))) (eC (.int 1000))) (aNil)))) (sSet 5 (eBin gFdv (eVar 5) (eC (.int 1000))))) (sNil))) (sSeq (sSet 7 (eBin gMod (eB gToInt (aCons (eBin gAdd (eBin gAdd (eBin gMul (eVar 5) (eC (.int 48271))) (eBin gMul (eVar 4) (eC (.int 69621)))) (eC (.int 11))) (aNil))) (eC (.int 2147483647)))) (sFor (iRgA (aCons (eC (.int 12)) (aNil))) (gNm 6) (sSeq (sSet 7 (eBin gMod (eB gToInt (aCons (eBin gAdd (eBin gAdd (eBin gMul (eVar 7) (eC (.int 16807))) (eBin gMul (eC (.int 7)) (eVar 6))) (eC (.int 1))) (aNil))) (eC (.int 2147483647)))) (sExpr (eMth gApp (eVar 3) (aCons (eBin gMod (eB gToInt (aCons (eBin gFdv (eVar 7) (eC (.int 997))) (aNil))) (eC (.int 1000))) (aNil))))))))))) (sRetR (eVar 3)))
theorem d_law_digits {P : Program} {w : World} {K : PySem.W.Frag} {mg : Str → Option Value} {base : Heap} {j : Nat} {g_law_cell : FD} {k_law_cell : Nat} (F_law_cell : FnD P w K mg base k_law_cell "_law_cell" 2 g_law_cell) (hk_law_cell : k_law_cell ≤ j) (m_int : mg "int" = none) (m_range : mg "range" = none) {cdv : Value} {A : Around} {outer : List PySem.Env} {s : Shared} {H : Hp} {E : XK} {f : Addr} (hr : Room j (A.deeper (envOfC "_law_digits" (defScope s_law_digits) s.heap.objs.size f cdv))) :
    DSs (cxOf CX0 P w K mg base NN_law_digits "_law_digits" (defScope s_law_digits) f cdv A outer s H E).nox (fun _ _ _ _ => False) (defBody s_law_digits) (B_law_digits g_law_cell) := by
  have hu := hr.units
  have hu1 := units65 hr
  exact dss_cons (dset 3 sc_law_digits.nd (de_lstO (da_nil))) (dss_cons (ds_for PassesOwn.never rfl (di_range2 rfl m_range (da_cons (dv 1) (da_cons (dv 2) (da_nil)))) (dgn 4 sc_law_digits.nd) (dss_cons (dset 5 sc_law_digits.nd (de_call F_law_cell hr hk_law_cell rfl (da_cons (dv 0) (da_cons (dv 4) (da_nil))))) (dss_cons (ds_if (dt_cmp od_lt (dv 5) (de_int) (nomark _)) (dss_one (dset 5 sc_law_digits.nd (de_bin od_sub (de_int) (de_bin od_mul (de_int) (dv 5))))) (dss_nil)) (dss_one (ds_if (dt_cmp od_ge (dv 5) (de_bin od_pow (de_int) (de_int)) (nomark _)) (dss_one (ds_for PassesOwn.never rfl (di_range1 rfl m_range (da_cons (de_int) (da_nil))) (dgn 6 sc_law_digits.nd) (dss_one (ds_if (dt_cmp od_gt (dv 5) (de_int) (nomark _)) (dss_cons (ds_expr (de_mth md_append PySem.F.slot_list_append PySem.F.type_list_append (dv 3) (da_cons (de_bin od_mod (de_callT cd_int rfl m_int (by decide +kernel) (da_cons (dv 5) (da_nil))) (de_int)) (da_nil)))) (dss_one (dset 5 sc_law_digits.nd (de_bin od_fdv (dv 5) (de_int))))) (dss_nil))))) (dss_cons (dset 7 sc_law_digits.nd (de_bin od_mod (de_callT cd_int rfl m_int (by decide +kernel) (da_cons (de_bin od_add (de_bin od_add (de_bin od_mul (dv 5) (de_int)) (de_bin od_mul (dv 4) (de_int))) (de_int)) (da_nil))) (de_int))) (dss_one (ds_for PassesOwn.never rfl (di_range1 rfl m_range (da_cons (de_int) (da_nil))) (dgn 6 sc_law_digits.nd) (dss_cons (dset 7 sc_law_digits.nd (de_bin od_mod (de_callT cd_int rfl m_int (by decide +kernel) (da_cons (de_bin od_add (de_bin od_add (de_bin od_mul (dv 7) (de_int)) (de_bin od_mul (de_int) (dv 6))) (de_int)) (da_nil))) (de_int))) (dss_one (ds_expr (de_mth md_append PySem.F.slot_list_append PySem.F.type_list_append (dv 3) (da_cons (de_bin od_mod (de_callT cd_int rfl m_int (by decide +kernel) (da_cons (de_bin od_fdv (dv 7) (de_int)) (da_nil))) (de_int)) (da_nil)))))))))))))) (dss_one (ds_retR (dv 3))))
abbrev s_law_draw : Stmt := topS 20
abbrev NN_law_draw : List Str := ["box", "many", "at"]
theorem sc_law_draw : FnScope NN_law_draw ["box", "many"] (defScope s_law_draw) := ⟨rfl, rfl, rfl, by decide +kernel, rfl, by decide +kernel, by decide +kernel⟩
/-- _law_draw -/
noncomputable def B_law_draw : SD := sSeq (sSet 2 (eBin gIx (eVar 0) (eC (.int 1)))) (sSeq (sAsg (eBin gAdd (eVar 2) (eC (.int 1))) (gSetL (eVar 0) (eC (.int 1)))) (sSeq (sIf (asB (eBin gLt (eVar 2) (eB gLen (aCons (eBin gIx (eVar 0) (eC (.int 0))) (aNil))))) (sRetR (eBin gMod (eB gToInt (aCons (eBin gIx (eBin gIx (eVar 0) (eC (.int 0))) (eVar 2)) (aNil))) (eVar 1))) (sNil)) (sRetR (eBin gMod (eB gToInt (aCons (eBin gAdd (eBin gMul (eVar 2) (eC (.int 7))) (eC (.int 3))) (aNil))) (eVar 1)))))
theorem d_law_draw {P : Program} {w : World} {K : PySem.W.Frag} {mg : Str → Option Value} {base : Heap} {j : Nat} (m_int : mg "int" = none) (m_len : mg "len" = none) {cdv : Value} {A : Around} {outer : List PySem.Env} {s : Shared} {H : Hp} {E : XK} {f : Addr} (hr : Room j (A.deeper (envOfC "_law_draw" (defScope s_law_draw) s.heap.objs.size f cdv))) :
    DSs (cxOf CX0 P w K mg base NN_law_draw "_law_draw" (defScope s_law_draw) f cdv A outer s H E).nox (fun _ _ _ _ => False) (defBody s_law_draw) (B_law_draw) := by
  have hu := hr.units
  have hu1 := units65 hr
  exact dss_cons (dset 2 sc_law_draw.nd (de_ix (dv 0) (de_int) (fun _ _ => rfl))) (dss_cons (ds_asg (de_bin od_add (dv 2) (de_int)) (dg_setL (dv 0) (de_int))) (dss_cons (ds_if (dt_cmp od_lt (dv 2) (de_callB cd_len rfl m_len boot_len (da_cons (de_ix (dv 0) (de_int) (fun _ _ => rfl)) (da_nil))) (nomark _)) (dss_one (ds_retR (de_bin od_mod (de_callT cd_int rfl m_int (by decide +kernel) (da_cons (de_ix (de_ix (dv 0) (de_int) (fun _ _ => rfl)) (dv 2) (fun _ _ => rfl)) (da_nil))) (dv 1)))) (dss_nil)) (dss_one (ds_retR (de_bin od_mod (de_callT cd_int rfl m_int (by decide +kernel) (da_cons (de_bin od_add (de_bin od_mul (dv 2) (de_int)) (de_int)) (da_nil))) (dv 1))))))
abbrev s_law_same : Stmt := topS 21
abbrev NN_law_same : List Str := ["actual", "due"]
theorem sc_law_same : FnScope NN_law_same ["actual", "due"] (defScope s_law_same) := ⟨rfl, rfl, rfl, by decide +kernel, rfl, by decide +kernel, by decide +kernel⟩
/-- _law_same -/
noncomputable def B_law_same : SD := sRetR (eBin (gEq false) (eB gReprA (aCons (eVar 0) (aNil))) (eB gReprA (aCons (eVar 1) (aNil))))
theorem d_law_same {P : Program} {w : World} {K : PySem.W.Frag} {mg : Str → Option Value} {base : Heap} {j : Nat} (m_repr : mg "repr" = none) {cdv : Value} {A : Around} {outer : List PySem.Env} {s : Shared} {H : Hp} {E : XK} {f : Addr} (hr : Room j (A.deeper (envOfC "_law_same" (defScope s_law_same) s.heap.objs.size f cdv))) (hgd : (A.deeper (envOfC "_law_same" (defScope s_law_same) s.heap.objs.size f cdv)).guards = some []) :
    DSs (cxOf CX0 P w K mg base NN_law_same "_law_same" (defScope s_law_same) f cdv A outer s H E).nox (fun _ _ _ _ => False) (defBody s_law_same) (B_law_same) := by
  have hu := hr.units
  have hu1 := units65 hr
  have hu2 : (A.deeper (envOfC "_law_same" (defScope s_law_same) s.heap.objs.size f cdv)).units + 66 < cLine := by have := hr.un; omega
  exact dss_one (ds_retR (de_cmp (od_eq hu) (de_callB (cd_reprA hgd hu2) rfl m_repr (by decide +kernel) (da_cons (dv 0) (da_nil))) (de_callB (cd_reprA hgd hu2) rfl m_repr (by decide +kernel) (da_cons (dv 1) (da_nil))) (nomark _)))
abbrev s_law_leaf : Stmt := topS 22
abbrev NN_law_leaf : List Str := ["box", "k", "wide", "name", "label", "cost", "width", "rows", "y", "x"]
theorem sc_law_leaf : FnScope NN_law_leaf ["box", "k", "wide"] (defScope s_law_leaf) := ⟨rfl, rfl, rfl, by decide +kernel, rfl, by decide +kernel, by decide +kernel⟩
/-- _law_leaf -/
noncomputable def B_law_leaf (g_law_draw : FD) : SD := sSeq (sSet 3 (eBin gAdd (eC (.str "p")) (eB gToStr (aCons (eVar 1) (aNil))))) (sSeq (sSet 4 (eBin gIx (eLst (aCons (eC (.str "")) (aCons (eC (.str "x")) (aCons (eC (.str "yz")) (aNil))))) (eCall 2 g_law_draw (aCons (eVar 0) (aCons (eC (.int 3)) (aNil)))))) (sSeq (sSet 5 (eCall 2 g_law_draw (aCons (eVar 0) (aCons (eC (.int 4)) (aNil))))) (sSeq (sIf (asB (eBin (gEq false) (eCall 2 g_law_draw (aCons (eVar 0) (aCons (eC (.int 2)) (aNil)))) (eC (.int 0)))) (sRetR (eTup (aCons (eC (.str "plain")) (aCons (eVar 3) (aCons (eVar 4) (aCons (eVar 5) (aCons (eBin (gEq false) (eCall 2 g_law_draw (aCons (eVar 0) (aCons (eC (.int 2)) (aNil)))) (eC (.int 1))) (aNil)))))))) (sNil)) (sSeq (sSet 6 (eBin gAdd (eC (.int 1)) (eCall 2 g_law_draw (aCons (eVar 0) (aCons (eVar 2) (aNil)))))) (sSeq (sSet 7 (eLstO (aNil))) (sSeq (sFor (iRgA (aCons (eBin gAdd (eC (.int 1)) (eCall 2 g_law_draw (aCons (eVar 0) (aCons (eVar 2) (aNil))))) (aNil))) (gNm 8) (sExpr (eMth gApp (eVar 7) (aCons (eJoin (eC (.str "")) (eLc (iRgA (aCons (eVar 6) (aNil))) (gNm 9) (bYes) (eBin gIx (eC (.str ".#")) (eCall 2 g_law_draw (aCons (eVar 0) (aCons (eC (.int 2)) (aNil))))) [9])) (aNil))))) (sRetR (eTup (aCons (eC (.str "shape")) (aCons (eVar 3) (aCons (eVar 4) (aCons (eVar 5) (aCons (eB gToTup (aCons (eVar 7) (aNil))) (aNil))))))))))))))
theorem d_law_leaf {P : Program} {w : World} {K : PySem.W.Frag} {mg : Str → Option Value} {base : Heap} {j : Nat} {g_law_draw : FD} {k_law_draw : Nat} (F_law_draw : FnD P w K mg base k_law_draw "_law_draw" 2 g_law_draw) (hk_law_draw : k_law_draw ≤ j) (m_range : mg "range" = none) (m_str : mg "str" = none) (m_tuple : mg "tuple" = none) {cdv : Value} {A : Around} {outer : List PySem.Env} {s : Shared} {H : Hp} {E : XK} {f : Addr} (hr : Room j (A.deeper (envOfC "_law_leaf" (defScope s_law_leaf) s.heap.objs.size f cdv))) :
    DSs (cxOf CX0 P w K mg base NN_law_leaf "_law_leaf" (defScope s_law_leaf) f cdv A outer s H E).nox (fun _ _ _ _ => False) (defBody s_law_leaf) (B_law_leaf g_law_draw) := by
  have hu := hr.units
  have hu1 := units65 hr
  exact dss_cons (dset 3 sc_law_leaf.nd (de_bin od_add (de_str) (de_callT cd_str rfl m_str (by decide +kernel) (da_cons (dv 1) (da_nil))))) (dss_cons (dset 4 sc_law_leaf.nd (de_ix (de_lst (da_cons (de_str) (da_cons (de_str) (da_cons (de_str) (da_nil))))) (de_call F_law_draw hr hk_law_draw rfl (da_cons (dv 0) (da_cons (de_int) (da_nil)))) (fun _ _ => rfl))) (dss_cons (dset 5 sc_law_leaf.nd (de_call F_law_draw hr hk_law_draw rfl (da_cons (dv 0) (da_cons (de_int) (da_nil))))) (dss_cons (ds_if (dt_cmp (od_eq hu) (de_call F_law_draw hr hk_law_draw rfl (da_cons (dv 0) (da_cons (de_int) (da_nil)))) (de_int) (nomark _)) (dss_one (ds_retR (de_tup (da_cons (de_str) (da_cons (dv 3) (da_cons (dv 4) (da_cons (dv 5) (da_cons (de_cmp (od_eq hu) (de_call F_law_draw hr hk_law_draw rfl (da_cons (dv 0) (da_cons (de_int) (da_nil)))) (de_int) (nomark _)) (da_nil))))))))) (dss_nil)) (dss_cons (dset 6 sc_law_leaf.nd (de_bin od_add (de_int) (de_call F_law_draw hr hk_law_draw rfl (da_cons (dv 0) (da_cons (dv 2) (da_nil)))))) (dss_cons (dset 7 sc_law_leaf.nd (de_lstO (da_nil))) (dss_cons (ds_for PassesOwn.never rfl (di_range1 rfl m_range (da_cons (de_bin od_add (de_int) (de_call F_law_draw hr hk_law_draw rfl (da_cons (dv 0) (da_cons (dv 2) (da_nil))))) (da_nil))) (dgn 8 sc_law_leaf.nd) (dss_one (ds_expr (de_mth md_append PySem.F.slot_list_append PySem.F.type_list_append (dv 7) (da_cons (de_join (de_str) (de_lc (own := [("x", 9)]) rfl sc_law_leaf.nd (di_range1 rfl m_range (da_cons (dv 6) (da_nil))) (blkOk_by (N := NN_law_leaf) (sc := defScope s_law_leaf) (by decide +kernel)) (fun _ _ _ _ _ => dgw 9 sc_law_leaf.nd (by decide)) (fun _ _ _ _ _ => dts_nil) (fun _ _ _ _ _ => de_ix (de_str) (de_call F_law_draw hr hk_law_draw rfl (da_cons (dv 0) (da_cons (de_int) (da_nil)))) (fun _ _ => rfl)))) (da_nil)))))) (dss_one (ds_retR (de_tup (da_cons (de_str) (da_cons (dv 3) (da_cons (dv 4) (da_cons (dv 5) (da_cons (de_callT cd_tuple rfl m_tuple (by decide +kernel) (da_cons (dv 7) (da_nil))) (da_nil)))))))))))))))
abbrev s_law_place : Stmt := topS 23
abbrev NN_law_place : List Str := ["box", "parts", "direction", "number", "part", "cost", "least", "size"]
theorem sc_law_place : FnScope NN_law_place ["box", "parts", "direction"] (defScope s_law_place) := ⟨rfl, rfl, rfl, by decide +kernel, rfl, by decide +kernel, by decide +kernel⟩
/-- _law_place -/
noncomputable def B_law_place (g_law_draw : FD) : SD := sSeq (sSet 3 (eBin gMod (eB gToInt (aCons (eCall 2 g_law_draw (aCons (eVar 0) (aCons (eC (.int 600)) (aNil)))) (aNil))) (eB gLen (aCons (eVar 1) (aNil))))) (sSeq (sSet 4 (eBin gIx (eVar 1) (eVar 3))) (sSeq (sSet 5 (eCall 2 g_law_draw (aCons (eVar 0) (aCons (eC (.int 3)) (aNil))))) (sSeq (sIf (bAnd (asB (eBin (gEq false) (eBin gIx (eVar 4) (eC (.int 0))) (eC (.str "shape")))) (asB (eBin gGt (eCall 2 g_law_draw (aCons (eVar 0) (aCons (eC (.int 4)) (aNil)))) (eC (.int 0))))) (sSeq (sSet 7 (eB gLen (aCons (eBin gIx (eVar 4) (eC (.int 4))) (aNil)))) (sSeq (sIf (asB (eBin (gEq false) (eVar 2) (eC (.str "across")))) (sSet 7 (eB gLen (aCons (eBin gIx (eBin gIx (eVar 4) (eC (.int 4))) (eC (.int 0))) (aNil)))) (sNil)) (sRetR (eTup (aCons (eC (.str "place")) (aCons (eVar 3) (aCons (eVar 7) (aCons (eVar 7) (aCons (eVar 5) (aNil)))))))))) (sNil)) (sSeq (sSet 6 (eBin gAdd (eC (.int 1)) (eCall 2 g_law_draw (aCons (eVar 0) (aCons (eC (.int 2)) (aNil)))))) (sRetR (eTup (aCons (eC (.str "place")) (aCons (eVar 3) (aCons (eVar 6) (aCons (eBin gAdd (eVar 6) (eCall 2 g_law_draw (aCons (eVar 0) (aCons (eC (.int 3)) (aNil))))) (aCons (eVar 5) (aNil))))))))))))
theorem d_law_place {P : Program} {w : World} {K : PySem.W.Frag} {mg : Str → Option Value} {base : Heap} {j : Nat} {g_law_draw : FD} {k_law_draw : Nat} (F_law_draw : FnD P w K mg base k_law_draw "_law_draw" 2 g_law_draw) (hk_law_draw : k_law_draw ≤ j) (m_int : mg "int" = none) (m_len : mg "len" = none) {cdv : Value} {A : Around} {outer : List PySem.Env} {s : Shared} {H : Hp} {E : XK} {f : Addr} (hr : Room j (A.deeper (envOfC "_law_place" (defScope s_law_place) s.heap.objs.size f cdv))) :
    DSs (cxOf CX0 P w K mg base NN_law_place "_law_place" (defScope s_law_place) f cdv A outer s H E).nox (fun _ _ _ _ => False) (defBody s_law_place) (B_law_place g_law_draw) := by
  have hu := hr.units
  have hu1 := units65 hr
  exact dss_cons (dset 3 sc_law_place.nd (de_bin od_mod (de_callT cd_int rfl m_int (by decide +kernel) (da_cons (de_call F_law_draw hr hk_law_draw rfl (da_cons (dv 0) (da_cons (de_int) (da_nil)))) (da_nil))) (de_callB cd_len rfl m_len boot_len (da_cons (dv 1) (da_nil))))) (dss_cons (dset 4 sc_law_place.nd (de_ix (dv 1) (dv 3) (fun _ _ => rfl))) (dss_cons (dset 5 sc_law_place.nd (de_call F_law_draw hr hk_law_draw rfl (da_cons (dv 0) (da_cons (de_int) (da_nil))))) (dss_cons (ds_if (DW.pt (dw_and (dt_cmp (od_eq hu) (de_ix (dv 4) (de_int) (fun _ _ => rfl)) (de_str) (nomark _)) (dw_and1 (dt_cmp od_gt (de_call F_law_draw hr hk_law_draw rfl (da_cons (dv 0) (da_cons (de_int) (da_nil)))) (de_int) (nomark _))))) (dss_cons (dset 7 sc_law_place.nd (de_callB cd_len rfl m_len boot_len (da_cons (de_ix (dv 4) (de_int) (fun _ _ => rfl)) (da_nil)))) (dss_cons (ds_if (dt_cmp (od_eq hu) (dv 2) (de_str) (nomark _)) (dss_one (dset 7 sc_law_place.nd (de_callB cd_len rfl m_len boot_len (da_cons (de_ix (de_ix (dv 4) (de_int) (fun _ _ => rfl)) (de_int) (fun _ _ => rfl)) (da_nil))))) (dss_nil)) (dss_one (ds_retR (de_tup (da_cons (de_str) (da_cons (dv 3) (da_cons (dv 7) (da_cons (dv 7) (da_cons (dv 5) (da_nil))))))))))) (dss_nil)) (dss_cons (dset 6 sc_law_place.nd (de_bin od_add (de_int) (de_call F_law_draw hr hk_law_draw rfl (da_cons (dv 0) (da_cons (de_int) (da_nil)))))) (dss_one (ds_retR (de_tup (da_cons (de_str) (da_cons (dv 3) (da_cons (dv 6) (da_cons (de_bin od_add (dv 6) (de_call F_law_draw hr hk_law_draw rfl (da_cons (dv 0) (da_cons (de_int) (da_nil))))) (da_cons (dv 5) (da_nil)))))))))))))
abbrev s_law_choice : Stmt := topS 24
abbrev NN_law_choice : List Str := ["box", "parts", "direction", "depth", "kind", "items", "k"]
theorem sc_law_choice : FnScope NN_law_choice ["box", "parts", "direction", "depth"] (defScope s_law_choice) := ⟨rfl, rfl, rfl, by decide +kernel, rfl, by decide +kernel, by decide +kernel⟩
/-- _law_choice -/
noncomputable def B_law_choice (g_law_draw : FD) (g_law_place : FD) (g_law_choice : FD) : SD := sSeq (sSet 4 (eCall 2 g_law_draw (aCons (eVar 0) (aCons (eC (.int 8)) (aNil))))) (sSeq (sIf (bOr (asB (eBin (gEq false) (eVar 3) (eC (.int 0)))) (asB (eBin gLt (eVar 4) (eC (.int 2))))) (sRetR (eCall 3 g_law_place (aCons (eVar 0) (aCons (eVar 1) (aCons (eVar 2) (aNil)))))) (sNil)) (sSeq (sIf (asB (eBin gLt (eVar 4) (eC (.int 6)))) (sSeq (sSet 5 (eB gToTup (aCons (eLc (iRgA (aCons (eC (.int 2)) (aNil))) (gNm 6) (bYes) (eCall 4 g_law_choice (aCons (eVar 0) (aCons (eVar 1) (aCons (eVar 2) (aCons (eBin gSub (eVar 3) (eC (.int 1))) (aNil)))))) [6]) (aNil)))) (sRetR (eTup (aCons (eBin gIx (eLst (aCons (eC (.str "sequence")) (aCons (eC (.str "choice")) (aNil)))) (eBin gMod (eB gToInt (aCons (eVar 4) (aNil))) (eC (.int 2)))) (aCons (eVar 5) (aNil)))))) (sNil)) (sRetR (eTup (aCons (eBin gIx (eLst (aCons (eC (.str "any")) (aCons (eC (.str "some")) (aCons (eC (.str "maybe")) (aNil))))) (eCall 2 g_law_draw (aCons (eVar 0) (aCons (eC (.int 3)) (aNil))))) (aCons (eCall 4 g_law_choice (aCons (eVar 0) (aCons (eVar 1) (aCons (eVar 2) (aCons (eBin gSub (eVar 3) (eC (.int 1))) (aNil)))))) (aNil)))))))
theorem d_law_choice {P : Program} {w : World} {K : PySem.W.Frag} {mg : Str → Option Value} {base : Heap} {j : Nat} {g_law_draw : FD} {k_law_draw : Nat} (F_law_draw : FnD P w K mg base k_law_draw "_law_draw" 2 g_law_draw) (hk_law_draw : k_law_draw ≤ j) {g_law_place : FD} {k_law_place : Nat} (F_law_place : FnD P w K mg base k_law_place "_law_place" 3 g_law_place) (hk_law_place : k_law_place ≤ j) {g_law_choice : FD} {k_law_choice : Nat} (F_law_choice : FnD P w K mg base k_law_choice "_law_choice" 4 g_law_choice) (hk_law_choice : k_law_choice ≤ j) (m_int : mg "int" = none) (m_range : mg "range" = none) (m_tuple : mg "tuple" = none) {cdv : Value} {A : Around} {outer : List PySem.Env} {s : Shared} {H : Hp} {E : XK} {f : Addr} (hr : Room j (A.deeper (envOfC "_law_choice" (defScope s_law_choice) s.heap.objs.size f cdv))) :
    DSs (cxOf CX0 P w K mg base NN_law_choice "_law_choice" (defScope s_law_choice) f cdv A outer s H E).nox (fun _ _ _ _ => False) (defBody s_law_choice) (B_law_choice g_law_draw g_law_place g_law_choice) := by
  have hu := hr.units
  have hu1 := units65 hr
  exact dss_cons (dset 4 sc_law_choice.nd (de_call F_law_draw hr hk_law_draw rfl (da_cons (dv 0) (da_cons (de_int) (da_nil))))) (dss_cons (ds_if (DW.pt (dw_or (dt_cmp (od_eq hu) (dv 3) (de_int) (nomark _)) (dw_or1 (dt_cmp od_lt (dv 4) (de_int) (nomark _))))) (dss_one (ds_retR (de_call F_law_place hr hk_law_place rfl (da_cons (dv 0) (da_cons (dv 1) (da_cons (dv 2) (da_nil))))))) (dss_nil)) (dss_cons (ds_if (dt_cmp od_lt (dv 4) (de_int) (nomark _)) (dss_cons (dset 5 sc_law_choice.nd (de_callT cd_tuple rfl m_tuple (by decide +kernel) (da_cons (de_lc (own := [("k", 6)]) rfl sc_law_choice.nd (di_range1 rfl m_range (da_cons (de_int) (da_nil))) (blkOk_by (N := NN_law_choice) (sc := defScope s_law_choice) (by decide +kernel)) (fun _ _ _ _ _ => dgw 6 sc_law_choice.nd (by decide)) (fun _ _ _ _ _ => dts_nil) (fun _ _ _ _ _ => de_call F_law_choice hr hk_law_choice rfl (da_cons (dv 0) (da_cons (dv 1) (da_cons (dv 2) (da_cons (de_bin od_sub (dv 3) (de_int)) (da_nil))))))) (da_nil)))) (dss_one (ds_retR (de_tup (da_cons (de_ix (de_lst (da_cons (de_str) (da_cons (de_str) (da_nil)))) (de_bin od_mod (de_callT cd_int rfl m_int (by decide +kernel) (da_cons (dv 4) (da_nil))) (de_int)) (fun _ _ => rfl)) (da_cons (dv 5) (da_nil))))))) (dss_nil)) (dss_one (ds_retR (de_tup (da_cons (de_ix (de_lst (da_cons (de_str) (da_cons (de_str) (da_cons (de_str) (da_nil))))) (de_call F_law_draw hr hk_law_draw rfl (da_cons (dv 0) (da_cons (de_int) (da_nil)))) (fun _ _ => rfl)) (da_cons (de_call F_law_choice hr hk_law_choice rfl (da_cons (dv 0) (da_cons (dv 1) (da_cons (dv 2) (da_cons (de_bin od_sub (dv 3) (de_int)) (da_nil)))))) (da_nil))))))))
abbrev s_law_parts : Stmt := topS 25
abbrev NN_law_parts : List Str := ["box", "wide", "strips", "parts", "k", "direction", "choice"]
theorem sc_law_parts : FnScope NN_law_parts ["box", "wide", "strips"] (defScope s_law_parts) := ⟨rfl, rfl, rfl, by decide +kernel, rfl, by decide +kernel, by decide +kernel⟩
/-- _law_parts -/
noncomputable def B_law_parts (g_law_draw : FD) (g_law_leaf : FD) (g_law_choice : FD) : SD := sSeq (sSet 3 (eLstO (aNil))) (sSeq (sFor (iRgA (aCons (eBin gAdd (eC (.int 2)) (eCall 2 g_law_draw (aCons (eVar 0) (aCons (eC (.int 3)) (aNil))))) (aNil))) (gNm 4) (sExpr (eMth gApp (eVar 3) (aCons (eCall 3 g_law_leaf (aCons (eVar 0) (aCons (eVar 4) (aCons (eVar 1) (aNil))))) (aNil))))) (sSeq (sFor (iRgA (aCons (eVar 2) (aNil))) (gNm 4) (sSeq (sSet 5 (eBin gIx (eLst (aCons (eC (.str "across")) (aCons (eC (.str "down")) (aNil)))) (eCall 2 g_law_draw (aCons (eVar 0) (aCons (eC (.int 2)) (aNil)))))) (sSeq (sSet 6 (eTup (aCons (eBin gIx (eLst (aCons (eC (.str "any")) (aCons (eC (.str "some")) (aCons (eC (.str "any")) (aNil))))) (eCall 2 g_law_draw (aCons (eVar 0) (aCons (eC (.int 3)) (aNil))))) (aCons (eCall 4 g_law_choice (aCons (eVar 0) (aCons (eVar 3) (aCons (eVar 5) (aCons (eC (.int 2)) (aNil)))))) (aNil))))) (sSeq (sIf (asB (eBin (gEq false) (eCall 2 g_law_draw (aCons (eVar 0) (aCons (eC (.int 3)) (aNil)))) (eC (.int 0)))) (sSet 6 (eBin gIx (eVar 6) (eC (.int 1)))) (sNil)) (sExpr (eMth gApp (eVar 3) (aCons (eTup (aCons (eVar 5) (aCons (eBin gAdd (eC (.str "s")) (eB gToStr (aCons (eVar 4) (aNil)))) (aCons (eBin gIx (eLst (aCons (eC (.str "")) (aCons (eC (.str "/")) (aCons (eC (.str " ")) (aNil))))) (eCall 2 g_law_draw (aCons (eVar 0) (aCons (eC (.int 3)) (aNil))))) (aCons (eVar 6) (aNil)))))) (aNil)))))))) (sRetR (eB gToTup (aCons (eVar 3) (aNil))))))
theorem d_law_parts {P : Program} {w : World} {K : PySem.W.Frag} {mg : Str → Option Value} {base : Heap} {j : Nat} {g_law_draw : FD} {k_law_draw : Nat} (F_law_draw : FnD P w K mg base k_law_draw "_law_draw" 2 g_law_draw) (hk_law_draw : k_law_draw ≤ j) {g_law_leaf : FD} {k_law_leaf : Nat} (F_law_leaf : FnD P w K mg base k_law_leaf "_law_leaf" 3 g_law_leaf) (hk_law_leaf : k_law_leaf ≤ j) {g_law_choice : FD} {k_law_choice : Nat} (F_law_choice : FnD P w K mg base k_law_choice "_law_choice" 4 g_law_choice) (hk_law_choice : k_law_choice ≤ j) (m_range : mg "range" = none) (m_str : mg "str" = none) (m_tuple : mg "tuple" = none) {cdv : Value} {A : Around} {outer : List PySem.Env} {s : Shared} {H : Hp} {E : XK} {f : Addr} (hr : Room j (A.deeper (envOfC "_law_parts" (defScope s_law_parts) s.heap.objs.size f cdv))) :
    DSs (cxOf CX0 P w K mg base NN_law_parts "_law_parts" (defScope s_law_parts) f cdv A outer s H E).nox (fun _ _ _ _ => False) (defBody s_law_parts) (B_law_parts g_law_draw g_law_leaf g_law_choice) := by
  have hu := hr.units
  have hu1 := units65 hr
  exact dss_cons (dset 3 sc_law_parts.nd (de_lstO (da_nil))) (dss_cons (ds_for PassesOwn.never rfl (di_range1 rfl m_range (da_cons (de_bin od_add (de_int) (de_call F_law_draw hr hk_law_draw rfl (da_cons (dv 0) (da_cons (de_int) (da_nil))))) (da_nil))) (dgn 4 sc_law_parts.nd) (dss_one (ds_expr (de_mth md_append PySem.F.slot_list_append PySem.F.type_list_append (dv 3) (da_cons (de_call F_law_leaf hr hk_law_leaf rfl (da_cons (dv 0) (da_cons (dv 4) (da_cons (dv 1) (da_nil))))) (da_nil)))))) (dss_cons (ds_for PassesOwn.never rfl (di_range1 rfl m_range (da_cons (dv 2) (da_nil))) (dgn 4 sc_law_parts.nd) (dss_cons (dset 5 sc_law_parts.nd (de_ix (de_lst (da_cons (de_str) (da_cons (de_str) (da_nil)))) (de_call F_law_draw hr hk_law_draw rfl (da_cons (dv 0) (da_cons (de_int) (da_nil)))) (fun _ _ => rfl))) (dss_cons (dset 6 sc_law_parts.nd (de_tup (da_cons (de_ix (de_lst (da_cons (de_str) (da_cons (de_str) (da_cons (de_str) (da_nil))))) (de_call F_law_draw hr hk_law_draw rfl (da_cons (dv 0) (da_cons (de_int) (da_nil)))) (fun _ _ => rfl)) (da_cons (de_call F_law_choice hr hk_law_choice rfl (da_cons (dv 0) (da_cons (dv 3) (da_cons (dv 5) (da_cons (de_int) (da_nil)))))) (da_nil))))) (dss_cons (ds_if (dt_cmp (od_eq hu) (de_call F_law_draw hr hk_law_draw rfl (da_cons (dv 0) (da_cons (de_int) (da_nil)))) (de_int) (nomark _)) (dss_one (dset 6 sc_law_parts.nd (de_ix (dv 6) (de_int) (fun _ _ => rfl)))) (dss_nil)) (dss_one (ds_expr (de_mth md_append PySem.F.slot_list_append PySem.F.type_list_append (dv 3) (da_cons (de_tup (da_cons (dv 5) (da_cons (de_bin od_add (de_str) (de_callT cd_str rfl m_str (by decide +kernel) (da_cons (dv 4) (da_nil)))) (da_cons (de_ix (de_lst (da_cons (de_str) (da_cons (de_str) (da_cons (de_str) (da_nil))))) (de_call F_law_draw hr hk_law_draw rfl (da_cons (dv 0) (da_cons (de_int) (da_nil)))) (fun _ _ => rfl)) (da_cons (dv 6) (da_nil)))))) (da_nil))))))))) (dss_one (ds_retR (de_callT cd_tuple rfl m_tuple (by decide +kernel) (da_cons (dv 3) (da_nil)))))))
abbrev s_law_strip : Stmt := topS 26
abbrev NN_law_strip : List Str := ["part"]
theorem sc_law_strip : FnScope NN_law_strip ["part"] (defScope s_law_strip) := ⟨rfl, rfl, rfl, by decide +kernel, rfl, by decide +kernel, by decide +kernel⟩
/-- _law_strip -/
noncomputable def B_law_strip : SD := sRetR (eOr (eBin (gEq false) (eBin gIx (eVar 0) (eC (.int 0))) (eC (.str "across"))) (eBin (gEq false) (eBin gIx (eVar 0) (eC (.int 0))) (eC (.str "down"))))
theorem d_law_strip {P : Program} {w : World} {K : PySem.W.Frag} {mg : Str → Option Value} {base : Heap} {j : Nat} {cdv : Value} {A : Around} {outer : List PySem.Env} {s : Shared} {H : Hp} {E : XK} {f : Addr} (hr : Room j (A.deeper (envOfC "_law_strip" (defScope s_law_strip) s.heap.objs.size f cdv))) :
    DSs (cxOf CX0 P w K mg base NN_law_strip "_law_strip" (defScope s_law_strip) f cdv A outer s H E).nox (fun _ _ _ _ => False) (defBody s_law_strip) (B_law_strip) := by
  have hu := hr.units
  have hu1 := units65 hr
  exact dss_one (ds_retR (de_or (de_cmp (od_eq hu) (de_ix (dv 0) (de_int) (fun _ _ => rfl)) (de_str) (nomark _)) (de_one (de_cmp (od_eq hu) (de_ix (dv 0) (de_int) (fun _ _ => rfl)) (de_str) (nomark _)))))
abbrev s_law_extent : Stmt := topS 27
abbrev NN_law_extent : List Str := ["part", "region"]
theorem sc_law_extent : FnScope NN_law_extent ["part", "region"] (defScope s_law_extent) := ⟨rfl, rfl, rfl, by decide +kernel, rfl, by decide +kernel, by decide +kernel⟩
/-- _law_extent -/
noncomputable def B_law_extent : SD := sSeq (sIf (asB (eBin (gEq false) (eBin gIx (eVar 0) (eC (.int 0))) (eC (.str "across")))) (sRetR (eBin gIx (eVar 1) (eC (.int 3)))) (sNil)) (sRetR (eBin gIx (eVar 1) (eC (.int 4))))
theorem d_law_extent {P : Program} {w : World} {K : PySem.W.Frag} {mg : Str → Option Value} {base : Heap} {j : Nat} {cdv : Value} {A : Around} {outer : List PySem.Env} {s : Shared} {H : Hp} {E : XK} {f : Addr} (hr : Room j (A.deeper (envOfC "_law_extent" (defScope s_law_extent) s.heap.objs.size f cdv))) :
    DSs (cxOf CX0 P w K mg base NN_law_extent "_law_extent" (defScope s_law_extent) f cdv A outer s H E).nox (fun _ _ _ _ => False) (defBody s_law_extent) (B_law_extent) := by
  have hu := hr.units
  have hu1 := units65 hr
  exact dss_cons (ds_if (dt_cmp (od_eq hu) (de_ix (dv 0) (de_int) (fun _ _ => rfl)) (de_str) (nomark _)) (dss_one (ds_retR (de_ix (dv 1) (de_int) (fun _ _ => rfl)))) (dss_nil)) (dss_one (ds_retR (de_ix (dv 1) (de_int) (fun _ _ => rfl))))
abbrev s_law_piece : Stmt := topS 28
abbrev NN_law_piece : List Str := ["part", "region", "number", "offset", "size"]
theorem sc_law_piece : FnScope NN_law_piece ["part", "region", "number", "offset", "size"] (defScope s_law_piece) := ⟨rfl, rfl, rfl, by decide +kernel, rfl, by decide +kernel, by decide +kernel⟩
/-- _law_piece -/
noncomputable def B_law_piece : SD := sSeq (sIf (asB (eBin (gEq false) (eBin gIx (eVar 0) (eC (.int 0))) (eC (.str "across")))) (sRetR (eTup (aCons (eVar 2) (aCons (eBin gAdd (eBin gIx (eVar 1) (eC (.int 1))) (eVar 3)) (aCons (eBin gIx (eVar 1) (eC (.int 2))) (aCons (eVar 4) (aCons (eBin gIx (eVar 1) (eC (.int 4))) (aNil)))))))) (sNil)) (sRetR (eTup (aCons (eVar 2) (aCons (eBin gIx (eVar 1) (eC (.int 1))) (aCons (eBin gAdd (eBin gIx (eVar 1) (eC (.int 2))) (eVar 3)) (aCons (eBin gIx (eVar 1) (eC (.int 3))) (aCons (eVar 4) (aNil))))))))
theorem d_law_piece {P : Program} {w : World} {K : PySem.W.Frag} {mg : Str → Option Value} {base : Heap} {j : Nat} {cdv : Value} {A : Around} {outer : List PySem.Env} {s : Shared} {H : Hp} {E : XK} {f : Addr} (hr : Room j (A.deeper (envOfC "_law_piece" (defScope s_law_piece) s.heap.objs.size f cdv))) :
    DSs (cxOf CX0 P w K mg base NN_law_piece "_law_piece" (defScope s_law_piece) f cdv A outer s H E).nox (fun _ _ _ _ => False) (defBody s_law_piece) (B_law_piece) := by
  have hu := hr.units
  have hu1 := units65 hr
  exact dss_cons (ds_if (dt_cmp (od_eq hu) (de_ix (dv 0) (de_int) (fun _ _ => rfl)) (de_str) (nomark _)) (dss_one (ds_retR (de_tup (da_cons (dv 2) (da_cons (de_bin od_add (de_ix (dv 1) (de_int) (fun _ _ => rfl)) (dv 3)) (da_cons (de_ix (dv 1) (de_int) (fun _ _ => rfl)) (da_cons (dv 4) (da_cons (de_ix (dv 1) (de_int) (fun _ _ => rfl)) (da_nil))))))))) (dss_nil)) (dss_one (ds_retR (de_tup (da_cons (dv 2) (da_cons (de_ix (dv 1) (de_int) (fun _ _ => rfl)) (da_cons (de_bin od_add (de_ix (dv 1) (de_int) (fun _ _ => rfl)) (dv 3)) (da_cons (de_ix (dv 1) (de_int) (fun _ _ => rfl)) (da_cons (dv 4) (da_nil)))))))))
abbrev s_law_fits : Stmt := topS 29
abbrev NN_law_fits : List Str := ["part", "region"]
theorem sc_law_fits : FnScope NN_law_fits ["part", "region"] (defScope s_law_fits) := ⟨rfl, rfl, rfl, by decide +kernel, rfl, by decide +kernel, by decide +kernel⟩
/-- _law_fits -/
noncomputable def B_law_fits : SD := sRetR (eOr (eBin (gEq false) (eBin gIx (eVar 0) (eC (.int 0))) (eC (.str "plain"))) (eAnd (eBin (gEq false) (eB gLen (aCons (eBin gIx (eVar 0) (eC (.int 4))) (aNil))) (eBin gIx (eVar 1) (eC (.int 4)))) (eBin (gEq false) (eB gLen (aCons (eBin gIx (eBin gIx (eVar 0) (eC (.int 4))) (eC (.int 0))) (aNil))) (eBin gIx (eVar 1) (eC (.int 3))))))
theorem d_law_fits {P : Program} {w : World} {K : PySem.W.Frag} {mg : Str → Option Value} {base : Heap} {j : Nat} (m_len : mg "len" = none) {cdv : Value} {A : Around} {outer : List PySem.Env} {s : Shared} {H : Hp} {E : XK} {f : Addr} (hr : Room j (A.deeper (envOfC "_law_fits" (defScope s_law_fits) s.heap.objs.size f cdv))) :
    DSs (cxOf CX0 P w K mg base NN_law_fits "_law_fits" (defScope s_law_fits) f cdv A outer s H E).nox (fun _ _ _ _ => False) (defBody s_law_fits) (B_law_fits) := by
  have hu := hr.units
  have hu1 := units65 hr
  exact dss_one (ds_retR (de_or (de_cmp (od_eq hu) (de_ix (dv 0) (de_int) (fun _ _ => rfl)) (de_str) (nomark _)) (de_one (de_and (de_cmp (od_eq hu) (de_callB cd_len rfl m_len boot_len (da_cons (de_ix (dv 0) (de_int) (fun _ _ => rfl)) (da_nil))) (de_ix (dv 1) (de_int) (fun _ _ => rfl)) (nomark _)) (de_one (de_cmp (od_eq hu) (de_callB cd_len rfl m_len boot_len (da_cons (de_ix (de_ix (dv 0) (de_int) (fun _ _ => rfl)) (de_int) (fun _ _ => rfl)) (da_nil))) (de_ix (dv 1) (de_int) (fun _ _ => rfl)) (nomark _)))))))
abbrev s_law_reached : Stmt := topS 30
abbrev NN_law_reached : List Str := ["ways", "number", "far", "seen", "turn", "move", "offset", "state", "size", "spot"]
theorem sc_law_reached : FnScope NN_law_reached ["ways", "number", "far"] (defScope s_law_reached) := ⟨rfl, rfl, rfl, by decide +kernel, rfl, by decide +kernel, by decide +kernel⟩
/-- _law_reached -/
noncomputable def B_law_reached : SD := sSeq (sSet 3 (eLstO (aCons (eTup (aCons (eC (.int 0)) (aCons (eC (.int 0)) (aNil)))) (aNil)))) (sSeq (sFor (iRgA (aCons (eBin gMul (eBin gAdd (eVar 2) (eC (.int 1))) (eB gLen (aCons (eBin gIx (eBin gIx (eVar 0) (eVar 1)) (eC (.int 0))) (aNil)))) (aNil))) (gNm 4) (sIf (asB (eBin gLt (eVar 4) (eB gLen (aCons (eVar 3) (aNil))))) (sSeq (sAsg (eBin gIx (eVar 3) (eVar 4)) (gTupD 2 (gsCons (gNm 6) (gsCons (gNm 7) (gsNil))))) (sFor (iTpl (eBin gIx (eBin gIx (eVar 0) (eVar 1)) (eC (.int 1)))) (gNm 5) (sFor (iRgB (aCons (eBin gIx (eVar 5) (eC (.int 3))) (aCons (eBin gAdd (eBin gIx (eVar 5) (eC (.int 4))) (eC (.int 1))) (aNil)))) (gNm 8) (sSeq (sSet 9 (eTup (aCons (eBin gAdd (eVar 6) (eVar 8)) (aCons (eBin gIx (eVar 5) (eC (.int 1))) (aNil))))) (sIf (bAnd (asB (eBin (gEq false) (eBin gIx (eVar 5) (eC (.int 0))) (eVar 7))) (bAnd (asB (eBin gLe (eBin gAdd (eVar 6) (eVar 8)) (eVar 2))) (asB (eBin (gInA true) (eVar 9) (eVar 3))))) (sExpr (eMth gApp (eVar 3) (aCons (eVar 9) (aNil)))) (sNil)))))) (sNil))) (sRetR (eLc (iLst (eB gSrtP (aCons (eVar 3) (aNil)))) ((gTupD 2 (gNms [6, 7]))) (bYes) (eTup (aCons (eVar 7) (aCons (eVar 6) (aNil)))) [6, 7])))
theorem d_law_reached {P : Program} {w : World} {K : PySem.W.Frag} {mg : Str → Option Value} {base : Heap} {j : Nat} (m_len : mg "len" = none) (m_range : mg "range" = none) (m_sorted : mg "sorted" = none) {cdv : Value} {A : Around} {outer : List PySem.Env} {s : Shared} {H : Hp} {E : XK} {f : Addr} (hr : Room j (A.deeper (envOfC "_law_reached" (defScope s_law_reached) s.heap.objs.size f cdv))) :
    DSs (cxOf CX0 P w K mg base NN_law_reached "_law_reached" (defScope s_law_reached) f cdv A outer s H E).nox (fun _ _ _ _ => False) (defBody s_law_reached) (B_law_reached) := by
  have hu := hr.units
  have hu1 := units65 hr
  exact dss_cons (dset 3 sc_law_reached.nd (de_lstO (da_cons (de_tup (da_cons (de_int) (da_cons (de_int) (da_nil)))) (da_nil)))) (dss_cons (ds_for PassesOwn.never rfl (di_range1 rfl m_range (da_cons (de_bin od_mul (de_bin od_add (dv 2) (de_int)) (de_callB cd_len rfl m_len boot_len (da_cons (de_ix (de_ix (dv 0) (dv 1) (fun _ _ => rfl)) (de_int) (fun _ _ => rfl)) (da_nil)))) (da_nil))) (dgn 4 sc_law_reached.nd) (dss_one (ds_if (dt_cmp od_lt (dv 4) (de_callB cd_len rfl m_len boot_len (da_cons (dv 3) (da_nil))) (nomark _)) (dss_cons (ds_asg (de_ix (dv 3) (dv 4) (fun _ _ => rfl)) (dg_tup rfl (dgs_cons (dgn 6 sc_law_reached.nd) (dgs_cons (dgn 7 sc_law_reached.nd) (dgs_nil))))) (dss_one (ds_for PassesOwn.never rfl (di_tup (de_ix (de_ix (dv 0) (dv 1) (fun _ _ => rfl)) (de_int) (fun _ _ => rfl))) (dgn 5 sc_law_reached.nd) (dss_one (ds_for PassesOwn.never rfl (di_range2 rfl m_range (da_cons (de_ix (dv 5) (de_int) (fun _ _ => rfl)) (da_cons (de_bin od_add (de_ix (dv 5) (de_int) (fun _ _ => rfl)) (de_int)) (da_nil)))) (dgn 8 sc_law_reached.nd) (dss_cons (dset 9 sc_law_reached.nd (de_tup (da_cons (de_bin od_add (dv 6) (dv 8)) (da_cons (de_ix (dv 5) (de_int) (fun _ _ => rfl)) (da_nil))))) (dss_one (ds_if (DW.pt (dw_and (dt_cmp (od_eq hu) (de_ix (dv 5) (de_int) (fun _ _ => rfl)) (dv 7) (nomark _)) (dw_and (dt_cmp od_le (de_bin od_add (dv 6) (dv 8)) (dv 2) (nomark _)) (dw_and1 (dt_cmp (od_notinA hu1) (dv 9) (dv 3) (by rfl)))))) (dss_one (ds_expr (de_mth md_append PySem.F.slot_list_append PySem.F.type_list_append (dv 3) (da_cons (dv 9) (da_nil))))) (dss_nil))))))))) (dss_nil)))) (dss_one (ds_retR (de_lc (own := [("offset", 6), ("state", 7)]) rfl sc_law_reached.nd (di_lst (de_callB cd_srtP rfl m_sorted (by decide +kernel) (da_cons (dv 3) (da_nil)))) (blkOk_by (N := NN_law_reached) (sc := defScope s_law_reached) (by decide +kernel)) (fun _ _ _ _ _ => dgw_tup (is := [6, 7]) rfl (pgs_cons (pgn 6 sc_law_reached.nd) (pgs_cons (pgn 7 sc_law_reached.nd) (pgs_nil))) (by decide)) (fun _ _ _ _ _ => dts_nil) (fun _ _ _ _ _ => de_tup (da_cons (dv 7) (da_cons (dv 6) (da_nil))))))))
abbrev s_law_looks : Stmt := topS 31
abbrev NN_law_looks : List Str := ["parts", "ways", "region", "part", "found", "far", "state", "offset", "move", "size"]
theorem sc_law_looks : FnScope NN_law_looks ["parts", "ways", "region"] (defScope s_law_looks) := ⟨rfl, rfl, rfl, by decide +kernel, rfl, by decide +kernel, by decide +kernel⟩
/-- _law_looks -/
noncomputable def B_law_looks (g_law_strip : FD) (g_law_extent : FD) (g_law_reached : FD) (g_law_piece : FD) : SD := sSeq (sSet 3 (eBin gIx (eVar 0) (eBin gIx (eVar 2) (eC (.int 0))))) (sSeq (sSet 4 (eLstO (aNil))) (sSeq (sIf (bTru (eCall 1 g_law_strip (aCons (eVar 3) (aNil)))) (sSeq (sSet 5 (eCall 2 g_law_extent (aCons (eVar 3) (aCons (eVar 2) (aNil))))) (sFor (iLst (eCall 3 g_law_reached (aCons (eVar 1) (aCons (eBin gIx (eVar 2) (eC (.int 0))) (aCons (eVar 5) (aNil)))))) (gTupD 2 (gsCons (gNm 6) (gsCons (gNm 7) (gsNil)))) (sFor (iTpl (eBin gIx (eBin gIx (eVar 1) (eBin gIx (eVar 2) (eC (.int 0)))) (eC (.int 1)))) (gNm 8) (sIf (asB (eBin (gEq false) (eBin gIx (eVar 8) (eC (.int 0))) (eVar 6))) (sFor (iRgB (aCons (eBin gIx (eVar 8) (eC (.int 3))) (aCons (eBin gAdd (eB gMin2 (aCons (eBin gIx (eVar 8) (eC (.int 4))) (aCons (eBin gSub (eVar 5) (eVar 7)) (aNil)))) (eC (.int 1))) (aNil)))) (gNm 9) (sExpr (eMth gApp (eVar 4) (aCons (eCall 5 g_law_piece (aCons (eVar 3) (aCons (eVar 2) (aCons (eBin gIx (eVar 8) (eC (.int 2))) (aCons (eVar 7) (aCons (eVar 9) (aNil))))))) (aNil))))) (sNil))))) (sNil)) (sRetR (eVar 4))))
theorem d_law_looks {P : Program} {w : World} {K : PySem.W.Frag} {mg : Str → Option Value} {base : Heap} {j : Nat} {g_law_strip : FD} {k_law_strip : Nat} (F_law_strip : FnD P w K mg base k_law_strip "_law_strip" 1 g_law_strip) (hk_law_strip : k_law_strip ≤ j) {g_law_extent : FD} {k_law_extent : Nat} (F_law_extent : FnD P w K mg base k_law_extent "_law_extent" 2 g_law_extent) (hk_law_extent : k_law_extent ≤ j) {g_law_reached : FD} {k_law_reached : Nat} (F_law_reached : FnD P w K mg base k_law_reached "_law_reached" 3 g_law_reached) (hk_law_reached : k_law_reached ≤ j) {g_law_piece : FD} {k_law_piece : Nat} (F_law_piece : FnD P w K mg base k_law_piece "_law_piece" 5 g_law_piece) (hk_law_piece : k_law_piece ≤ j) (m_min : mg "min" = none) (m_range : mg "range" = none) {cdv : Value} {A : Around} {outer : List PySem.Env} {s : Shared} {H : Hp} {E : XK} {f : Addr} (hr : Room j (A.deeper (envOfC "_law_looks" (defScope s_law_looks) s.heap.objs.size f cdv))) :
    DSs (cxOf CX0 P w K mg base NN_law_looks "_law_looks" (defScope s_law_looks) f cdv A outer s H E).nox (fun _ _ _ _ => False) (defBody s_law_looks) (B_law_looks g_law_strip g_law_extent g_law_reached g_law_piece) := by
  have hu := hr.units
  have hu1 := units65 hr
  exact dss_cons (dset 3 sc_law_looks.nd (de_ix (dv 0) (de_ix (dv 2) (de_int) (fun _ _ => rfl)) (fun _ _ => rfl))) (dss_cons (dset 4 sc_law_looks.nd (de_lstO (da_nil))) (dss_cons (ds_if (dt_truth (de_call F_law_strip hr hk_law_strip rfl (da_cons (dv 3) (da_nil)))) (dss_cons (dset 5 sc_law_looks.nd (de_call F_law_extent hr hk_law_extent rfl (da_cons (dv 3) (da_cons (dv 2) (da_nil))))) (dss_one (ds_for PassesOwn.never rfl (di_lst (de_call F_law_reached hr hk_law_reached rfl (da_cons (dv 1) (da_cons (de_ix (dv 2) (de_int) (fun _ _ => rfl)) (da_cons (dv 5) (da_nil)))))) (dg_tup rfl (dgs_cons (dgn 6 sc_law_looks.nd) (dgs_cons (dgn 7 sc_law_looks.nd) (dgs_nil)))) (dss_one (ds_for PassesOwn.never rfl (di_tup (de_ix (de_ix (dv 1) (de_ix (dv 2) (de_int) (fun _ _ => rfl)) (fun _ _ => rfl)) (de_int) (fun _ _ => rfl))) (dgn 8 sc_law_looks.nd) (dss_one (ds_if (dt_cmp (od_eq hu) (de_ix (dv 8) (de_int) (fun _ _ => rfl)) (dv 6) (nomark _)) (dss_one (ds_for PassesOwn.never rfl (di_range2 rfl m_range (da_cons (de_ix (dv 8) (de_int) (fun _ _ => rfl)) (da_cons (de_bin od_add (de_callB (cd_min2 rfl) rfl m_min (by decide +kernel) (da_cons (de_ix (dv 8) (de_int) (fun _ _ => rfl)) (da_cons (de_bin od_sub (dv 5) (dv 7)) (da_nil)))) (de_int)) (da_nil)))) (dgn 9 sc_law_looks.nd) (dss_one (ds_expr (de_mth md_append PySem.F.slot_list_append PySem.F.type_list_append (dv 4) (da_cons (de_call F_law_piece hr hk_law_piece rfl (da_cons (dv 3) (da_cons (dv 2) (da_cons (de_ix (dv 8) (de_int) (fun _ _ => rfl)) (da_cons (dv 7) (da_cons (dv 9) (da_nil))))))) (da_nil))))))) (dss_nil)))))))) (dss_nil)) (dss_one (ds_retR (dv 4)))))
abbrev s_law : Stmt := topS 32
abbrev NN_law : List Str := ["script", "box", "parts", "ways", "number", "turn", "most", "region", "due"]
theorem sc_law : FnScope NN_law ["script"] (defScope s_law) := ⟨rfl, rfl, rfl, by decide +kernel, rfl, by decide +kernel, by decide +kernel⟩
/-- law -/
noncomputable def B_law (g_law_parts : FD) (g_machines : FD) (g_law_digits : FD) (g_law_draw : FD) (g_law_strip : FD) (g_law_same : FD) (g_law_reached : FD) (g_look_count : FD) (g_law_extent : FD) (g_law_looks : FD) (g_spots : FD) : SD := sSeq (sSet 1 (eLstO (aCons (eCall 3 g_law_digits (aCons (eVar 0) (aCons (eC (.int 0)) (aCons (eC (.int 16)) (aNil))))) (aCons (eC (.int 0)) (aNil))))) (sSeq (sSet 2 (eCall 3 g_law_parts (aCons (eVar 1) (aCons (eC (.int 3)) (aCons (eBin gAdd (eC (.int 1)) (eCall 2 g_law_draw (aCons (eVar 1) (aCons (eC (.int 3)) (aNil))))) (aNil)))))) (sSeq (sSet 3 (eCall 1 g_machines (aCons (eVar 2) (aNil)))) (sSeq (sSet 1 (eLstO (aCons (eCall 3 g_law_digits (aCons (eVar 0) (aCons (eC (.int 16)) (aCons (eC (.int 40)) (aNil))))) (aCons (eC (.int 0)) (aNil))))) (sSeq (sFor (iRgA (aCons (eB gLen (aCons (eVar 2) (aNil))) (aNil))) (gNm 4) (sFor (iRgA (aCons (eC (.int 2)) (aNil))) (gNm 5) (sSeq (sSet 6 (eBin gIx (eLst (aCons (eC (.int 4)) (aCons (eC (.int 7)) (aCons (eC (.int 16)) (aNil))))) (eCall 2 g_law_draw (aCons (eVar 1) (aCons (eC (.int 3)) (aNil)))))) (sSeq (sSet 7 (eTup (aCons (eVar 4) (aCons (eCall 2 g_law_draw (aCons (eVar 1) (aCons (eC (.int 30)) (aNil)))) (aCons (eCall 2 g_law_draw (aCons (eVar 1) (aCons (eC (.int 30)) (aNil)))) (aCons (eBin gAdd (eC (.int 1)) (eCall 2 g_law_draw (aCons (eVar 1) (aCons (eVar 6) (aNil))))) (aCons (eBin gAdd (eC (.int 1)) (eCall 2 g_law_draw (aCons (eVar 1) (aCons (eVar 6) (aNil))))) (aNil)))))))) (sSeq (sIf (bNot (bTru (eCall 2 g_law_same (aCons (eCall 2 g_look_count (aCons (eVar 2) (aCons (eVar 7) (aNil)))) (aCons (eB gLen (aCons (eCall 3 g_law_looks (aCons (eVar 2) (aCons (eVar 3) (aCons (eVar 7) (aNil))))) (aNil))) (aNil)))))) (sRetR (eC (.bool false))) (sNil)) (sIf (bTru (eCall 1 g_law_strip (aCons (eBin gIx (eVar 2) (eVar 4)) (aNil)))) (sSeq (sSet 8 (eCall 3 g_law_reached (aCons (eVar 3) (aCons (eVar 4) (aCons (eCall 2 g_law_extent (aCons (eBin gIx (eVar 2) (eVar 4)) (aCons (eVar 7) (aNil)))) (aNil)))))) (sIf (bNot (bTru (eCall 2 g_law_same (aCons (eCall 2 g_spots (aCons (eVar 2) (aCons (eVar 7) (aNil)))) (aCons (eVar 8) (aNil)))))) (sRetR (eC (.bool false))) (sNil))) (sNil))))))) (sRetR (eC (.bool true)))))))
theorem d_law {P : Program} {w : World} {K : PySem.W.Frag} {mg : Str → Option Value} {base : Heap} {j : Nat} {g_law_parts : FD} {k_law_parts : Nat} (F_law_parts : FnD P w K mg base k_law_parts "_law_parts" 3 g_law_parts) (hk_law_parts : k_law_parts ≤ j) {g_machines : FD} {k_machines : Nat} (F_machines : FnD P w K mg base k_machines "machines" 1 g_machines) (hk_machines : k_machines ≤ j) {g_law_digits : FD} {k_law_digits : Nat} (F_law_digits : FnD P w K mg base k_law_digits "_law_digits" 3 g_law_digits) (hk_law_digits : k_law_digits ≤ j) {g_law_draw : FD} {k_law_draw : Nat} (F_law_draw : FnD P w K mg base k_law_draw "_law_draw" 2 g_law_draw) (hk_law_draw : k_law_draw ≤ j) {g_law_strip : FD} {k_law_strip : Nat} (F_law_strip : FnD P w K mg base k_law_strip "_law_strip" 1 g_law_strip) (hk_law_strip : k_law_strip ≤ j) {g_law_same : FD} {k_law_same : Nat} (F_law_same : FnG P w K mg base k_law_same "_law_same" 2 g_law_same) (hk_law_same : k_law_same ≤ j) {g_law_reached : FD} {k_law_reached : Nat} (F_law_reached : FnD P w K mg base k_law_reached "_law_reached" 3 g_law_reached) (hk_law_reached : k_law_reached ≤ j) {g_look_count : FD} {k_look_count : Nat} (F_look_count : FnD P w K mg base k_look_count "look_count" 2 g_look_count) (hk_look_count : k_look_count ≤ j) {g_law_extent : FD} {k_law_extent : Nat} (F_law_extent : FnD P w K mg base k_law_extent "_law_extent" 2 g_law_extent) (hk_law_extent : k_law_extent ≤ j) {g_law_looks : FD} {k_law_looks : Nat} (F_law_looks : FnD P w K mg base k_law_looks "_law_looks" 3 g_law_looks) (hk_law_looks : k_law_looks ≤ j) {g_spots : FD} {k_spots : Nat} (F_spots : FnD P w K mg base k_spots "spots" 2 g_spots) (hk_spots : k_spots ≤ j) (m_len : mg "len" = none) (m_range : mg "range" = none) {cdv : Value} {A : Around} {outer : List PySem.Env} {s : Shared} {H : Hp} {E : XK} {f : Addr} (hr : Room j (A.deeper (envOfC "law" (defScope s_law) s.heap.objs.size f cdv))) (hgd : (A.deeper (envOfC "law" (defScope s_law) s.heap.objs.size f cdv)).guards = some []) :
    DSs (cxOf CX0 P w K mg base NN_law "law" (defScope s_law) f cdv A outer s H E).nox (fun _ _ _ _ => False) (defBody s_law) (B_law g_law_parts g_machines g_law_digits g_law_draw g_law_strip g_law_same g_law_reached g_look_count g_law_extent g_law_looks g_spots) := by
  have hu := hr.units
  have hu1 := units65 hr
  have hu2 : (A.deeper (envOfC "law" (defScope s_law) s.heap.objs.size f cdv)).units + 66 < cLine := by have := hr.un; omega
  exact dss_cons (dset 1 sc_law.nd (de_lstO (da_cons (de_call F_law_digits hr hk_law_digits rfl (da_cons (dv 0) (da_cons (de_int) (da_cons (de_int) (da_nil))))) (da_cons (de_int) (da_nil))))) (dss_cons (dset 2 sc_law.nd (de_call F_law_parts hr hk_law_parts rfl (da_cons (dv 1) (da_cons (de_int) (da_cons (de_bin od_add (de_int) (de_call F_law_draw hr hk_law_draw rfl (da_cons (dv 1) (da_cons (de_int) (da_nil))))) (da_nil)))))) (dss_cons (dset 3 sc_law.nd (de_call F_machines hr hk_machines rfl (da_cons (dv 2) (da_nil)))) (dss_cons (dset 1 sc_law.nd (de_lstO (da_cons (de_call F_law_digits hr hk_law_digits rfl (da_cons (dv 0) (da_cons (de_int) (da_cons (de_int) (da_nil))))) (da_cons (de_int) (da_nil))))) (dss_cons (ds_for PassesOwn.never rfl (di_range1 rfl m_range (da_cons (de_callB cd_len rfl m_len boot_len (da_cons (dv 2) (da_nil))) (da_nil))) (dgn 4 sc_law.nd) (dss_one (ds_for PassesOwn.never rfl (di_range1 rfl m_range (da_cons (de_int) (da_nil))) (dgn 5 sc_law.nd) (dss_cons (dset 6 sc_law.nd (de_ix (de_lst (da_cons (de_int) (da_cons (de_int) (da_cons (de_int) (da_nil))))) (de_call F_law_draw hr hk_law_draw rfl (da_cons (dv 1) (da_cons (de_int) (da_nil)))) (fun _ _ => rfl))) (dss_cons (dset 7 sc_law.nd (de_tup (da_cons (dv 4) (da_cons (de_call F_law_draw hr hk_law_draw rfl (da_cons (dv 1) (da_cons (de_int) (da_nil)))) (da_cons (de_call F_law_draw hr hk_law_draw rfl (da_cons (dv 1) (da_cons (de_int) (da_nil)))) (da_cons (de_bin od_add (de_int) (de_call F_law_draw hr hk_law_draw rfl (da_cons (dv 1) (da_cons (dv 6) (da_nil))))) (da_cons (de_bin od_add (de_int) (de_call F_law_draw hr hk_law_draw rfl (da_cons (dv 1) (da_cons (dv 6) (da_nil))))) (da_nil)))))))) (dss_cons (ds_if (dt_not (dt_truth (de_callG F_law_same hgd hr hk_law_same rfl (da_cons (de_call F_look_count hr hk_look_count rfl (da_cons (dv 2) (da_cons (dv 7) (da_nil)))) (da_cons (de_callB cd_len rfl m_len boot_len (da_cons (de_call F_law_looks hr hk_law_looks rfl (da_cons (dv 2) (da_cons (dv 3) (da_cons (dv 7) (da_nil))))) (da_nil))) (da_nil)))))) (dss_one (ds_retR (de_bl))) (dss_nil)) (dss_one (ds_if (dt_truth (de_call F_law_strip hr hk_law_strip rfl (da_cons (de_ix (dv 2) (dv 4) (fun _ _ => rfl)) (da_nil)))) (dss_cons (dset 8 sc_law.nd (de_call F_law_reached hr hk_law_reached rfl (da_cons (dv 3) (da_cons (dv 4) (da_cons (de_call F_law_extent hr hk_law_extent rfl (da_cons (de_ix (dv 2) (dv 4) (fun _ _ => rfl)) (da_cons (dv 7) (da_nil)))) (da_nil)))))) (dss_one (ds_if (dt_not (dt_truth (de_callG F_law_same hgd hr hk_law_same rfl (da_cons (de_call F_spots hr hk_spots rfl (da_cons (dv 2) (da_cons (dv 7) (da_nil)))) (da_cons (dv 8) (da_nil)))))) (dss_one (ds_retR (de_bl))) (dss_nil)))) (dss_nil))))))))) (dss_one (ds_retR (de_bl)))))))
abbrev s_Looks___init__ : Stmt := subS (topS 14) 0
abbrev NN_Looks___init__ : List Str := ["self", "parts"]
theorem sc_Looks___init__ : FnScope NN_Looks___init__ ["self", "parts"] (defScope s_Looks___init__) := ⟨rfl, rfl, rfl, by decide +kernel, rfl, by decide +kernel, by decide +kernel⟩
/-- Looks.__init__ -/
noncomputable def B_Looks___init__ (g_machines : FD) : SD := sSeq (sFldI "Looks" "parts" (eVar 0) (eVar 1)) (sSeq (sFldI "Looks" "table" (eVar 0) (eCall 1 g_machines (aCons (eVar 1) (aNil)))) (sSeq (sFldI "Looks" "reached" (eVar 0) (eDNew)) (sFldI "Looks" "put" (eVar 0) (eDNew))))
theorem d_Looks___init__ {P : Program} {w : World} {K : PySem.W.Frag} {mg : Str → Option Value} {base : Heap} {j : Nat} {pa_Looks : Addr} (pg_Looks : mg "Looks" = some (.ref pa_Looks)) (pk_Looks : Cls K pa_Looks) (pn_Looks_parts : NoAttr K pa_Looks "parts") (pn_Looks_table : NoAttr K pa_Looks "table") (pn_Looks_reached : NoAttr K pa_Looks "reached") (pn_Looks_put : NoAttr K pa_Looks "put") {g_machines : FD} {k_machines : Nat} (F_machines : FnD P w K mg base k_machines "machines" 1 g_machines) (hk_machines : k_machines ≤ j) {cdv : Value} {A : Around} {outer : List PySem.Env} {s : Shared} {H : Hp} {E : XK} {f : Addr} (hr : Room j (A.deeper (envOfC "Looks.__init__" (defScope s_Looks___init__) s.heap.objs.size f cdv))) :
    DSs (cxOf CX0 P w K mg base NN_Looks___init__ "Looks.__init__" (defScope s_Looks___init__) f cdv A outer s H E).nox (fun _ _ _ _ => False) (defBody s_Looks___init__) (B_Looks___init__ g_machines) := by
  have hu := hr.units
  have hu1 := units65 hr
  exact dss_cons (ds_fld (dv 0) (dv 1) pg_Looks pk_Looks pn_Looks_parts) (dss_cons (ds_fld (dv 0) (de_call F_machines hr hk_machines rfl (da_cons (dv 1) (da_nil))) pg_Looks pk_Looks pn_Looks_table) (dss_cons (ds_fld (dv 0) (de_dnew) pg_Looks pk_Looks pn_Looks_reached) (dss_one (ds_fld (dv 0) (de_dnew) pg_Looks pk_Looks pn_Looks_put))))
abbrev s_Looks_key : Stmt := subS (topS 14) 1
abbrev NN_Looks_key : List Str := ["self", "region"]
theorem sc_Looks_key : FnScope NN_Looks_key ["self", "region"] (defScope s_Looks_key) := ⟨rfl, rfl, rfl, by decide +kernel, rfl, by decide +kernel, by decide +kernel⟩
/-- Looks.key -/
noncomputable def B_Looks_key (g_extent : FD) : SD := sRetR (eTup (aCons (eBin gIx (eVar 1) (eC (.int 0))) (aCons (eCall 2 g_extent (aCons (eBin gIx (eFld "Looks" "parts" (eVar 0)) (eBin gIx (eVar 1) (eC (.int 0)))) (aCons (eVar 1) (aNil)))) (aNil))))
theorem d_Looks_key {P : Program} {w : World} {K : PySem.W.Frag} {mg : Str → Option Value} {base : Heap} {j : Nat} {pa_Looks : Addr} (pg_Looks : mg "Looks" = some (.ref pa_Looks)) (pk_Looks : Cls K pa_Looks) (pn_Looks_parts : NoAttr K pa_Looks "parts") {g_extent : FD} {k_extent : Nat} (F_extent : FnD P w K mg base k_extent "extent" 2 g_extent) (hk_extent : k_extent ≤ j) {cdv : Value} {A : Around} {outer : List PySem.Env} {s : Shared} {H : Hp} {E : XK} {f : Addr} (hr : Room j (A.deeper (envOfC "Looks.key" (defScope s_Looks_key) s.heap.objs.size f cdv))) :
    DSs (cxOf CX0 P w K mg base NN_Looks_key "Looks.key" (defScope s_Looks_key) f cdv A outer s H E).nox (fun _ _ _ _ => False) (defBody s_Looks_key) (B_Looks_key g_extent) := by
  have hu := hr.units
  have hu1 := units65 hr
  exact dss_one (ds_retR (de_tup (da_cons (de_ix (dv 1) (de_int) (fun _ _ => rfl)) (da_cons (de_call F_extent hr hk_extent rfl (da_cons (de_ix (de_fld (dv 0) pg_Looks pk_Looks pn_Looks_parts) (de_ix (dv 1) (de_int) (fun _ _ => rfl)) (fun _ _ => rfl)) (da_cons (dv 1) (da_nil)))) (da_nil)))))
abbrev s_Looks_by_spot : Stmt := subS (topS 14) 2
abbrev NN_Looks_by_spot : List Str := ["self", "region", "key"]
theorem sc_Looks_by_spot : FnScope NN_Looks_by_spot ["self", "region"] (defScope s_Looks_by_spot) := ⟨rfl, rfl, rfl, by decide +kernel, rfl, by decide +kernel, by decide +kernel⟩
/-- Looks.by_spot -/
noncomputable def B_Looks_by_spot (g_Looks_key : FD) (g_reached : FD) : SD := sSeq (sSet 2 (eMeth "Looks" "key" 2 g_Looks_key (eVar 0) (aCons (eVar 1) (aNil)))) (sSeq (sIf (asB (eBin (gInA true) (eVar 2) (eFld "Looks" "reached" (eVar 0)))) (sDPtO (eFld "Looks" "reached" (eVar 0)) (eVar 2) (eCall 2 g_reached (aCons (eBin gIx (eFld "Looks" "table" (eVar 0)) (eBin gIx (eVar 2) (eC (.int 0)))) (aCons (eBin gIx (eVar 2) (eC (.int 1))) (aNil))))) (sNil)) (sRet (eBin gDIx (eFld "Looks" "reached" (eVar 0)) (eVar 2))))
theorem d_Looks_by_spot {P : Program} {w : World} {K : PySem.W.Frag} {mg : Str → Option Value} {base : Heap} {j : Nat} {pa_Looks : Addr} (pg_Looks : mg "Looks" = some (.ref pa_Looks)) (pk_Looks : Cls K pa_Looks) (pn_Looks_reached : NoAttr K pa_Looks "reached") (pn_Looks_table : NoAttr K pa_Looks "table") {g_Looks_key : FD} {k_Looks_key : Nat} (F_Looks_key : FnM P w K mg base k_Looks_key "Looks" "key" 2 g_Looks_key) (hk_Looks_key : k_Looks_key ≤ j) {g_reached : FD} {k_reached : Nat} (F_reached : FnD P w K mg base k_reached "reached" 2 g_reached) (hk_reached : k_reached ≤ j) {cdv : Value} {A : Around} {outer : List PySem.Env} {s : Shared} {H : Hp} {E : XK} {f : Addr} (hr : Room j (A.deeper (envOfC "Looks.by_spot" (defScope s_Looks_by_spot) s.heap.objs.size f cdv))) :
    DSs (cxOf CX0 P w K mg base NN_Looks_by_spot "Looks.by_spot" (defScope s_Looks_by_spot) f cdv A outer s H E).nox (fun _ _ _ _ => False) (defBody s_Looks_by_spot) (B_Looks_by_spot g_Looks_key g_reached) := by
  have hu := hr.units
  have hu1 := units65 hr
  exact dss_cons (dset 2 sc_Looks_by_spot.nd (de_meth F_Looks_key hr hk_Looks_key (dv 0) (da_cons (dv 1) (da_nil)))) (dss_cons (ds_if (dt_cmp (od_notinA hu1) (dv 2) (de_fld (dv 0) pg_Looks pk_Looks pn_Looks_reached) (by rfl)) (dss_one (ds_dputO hu1 (de_fld (dv 0) pg_Looks pk_Looks pn_Looks_reached) (dv 2) (de_call F_reached hr hk_reached rfl (da_cons (de_ix (de_fld (dv 0) pg_Looks pk_Looks pn_Looks_table) (de_ix (dv 2) (de_int) (fun _ _ => rfl)) (fun _ _ => rfl)) (da_cons (de_ix (dv 2) (de_int) (fun _ _ => rfl)) (da_nil)))))) (dss_nil)) (dss_one (ds_ret (de_dix hu1 (de_fld (dv 0) pg_Looks pk_Looks pn_Looks_reached) (dv 2) (fun _ _ => rfl)))))
abbrev s_Looks_count_of : Stmt := subS (topS 14) 3
abbrev NN_Looks_count_of : List Str := ["self", "region", "looks"]
theorem sc_Looks_count_of : FnScope NN_Looks_count_of ["self", "region"] (defScope s_Looks_count_of) := ⟨rfl, rfl, rfl, by decide +kernel, rfl, by decide +kernel, by decide +kernel⟩
/-- Looks.count_of -/
noncomputable def B_Looks_count_of (g_is_strip : FD) (g_Looks_by_spot : FD) : SD := sSeq (sIf (bNot (bTru (eCall 1 g_is_strip (aCons (eBin gIx (eFld "Looks" "parts" (eVar 0)) (eBin gIx (eVar 1) (eC (.int 0)))) (aNil))))) (sRetR (eC (.int 0))) (sNil)) (sRetR (eB gSum (aCons (eLc (iLst (eLVal (eMeth "Looks" "by_spot" 2 g_Looks_by_spot (eVar 0) (aCons (eVar 1) (aNil))))) (gNm 2) (bYes) (eB gLen (aCons (eVar 2) (aNil))) [2]) (aNil))))
theorem d_Looks_count_of {P : Program} {w : World} {K : PySem.W.Frag} {mg : Str → Option Value} {base : Heap} {j : Nat} {pa_Looks : Addr} (pg_Looks : mg "Looks" = some (.ref pa_Looks)) (pk_Looks : Cls K pa_Looks) (pn_Looks_parts : NoAttr K pa_Looks "parts") {g_is_strip : FD} {k_is_strip : Nat} (F_is_strip : FnD P w K mg base k_is_strip "is_strip" 1 g_is_strip) (hk_is_strip : k_is_strip ≤ j) {g_Looks_by_spot : FD} {k_Looks_by_spot : Nat} (F_Looks_by_spot : FnM P w K mg base k_Looks_by_spot "Looks" "by_spot" 2 g_Looks_by_spot) (hk_Looks_by_spot : k_Looks_by_spot ≤ j) (m_len : mg "len" = none) (m_list : mg "list" = none) (m_sum : mg "sum" = none) {cdv : Value} {A : Around} {outer : List PySem.Env} {s : Shared} {H : Hp} {E : XK} {f : Addr} (hr : Room j (A.deeper (envOfC "Looks.count_of" (defScope s_Looks_count_of) s.heap.objs.size f cdv))) :
    DSs (cxOf CX0 P w K mg base NN_Looks_count_of "Looks.count_of" (defScope s_Looks_count_of) f cdv A outer s H E).nox (fun _ _ _ _ => False) (defBody s_Looks_count_of) (B_Looks_count_of g_is_strip g_Looks_by_spot) := by
  have hu := hr.units
  have hu1 := units65 hr
  exact dss_cons (ds_if (dt_not (dt_truth (de_call F_is_strip hr hk_is_strip rfl (da_cons (de_ix (de_fld (dv 0) pg_Looks pk_Looks pn_Looks_parts) (de_ix (dv 1) (de_int) (fun _ _ => rfl)) (fun _ _ => rfl)) (da_nil))))) (dss_one (ds_retR (de_int))) (dss_nil)) (dss_one (ds_retR (de_callB (cd_sum rfl) rfl m_sum (by decide +kernel) (da_cons (de_lc (own := [("looks", 2)]) rfl sc_Looks_count_of.nd (di_lst (de_listV rfl (de_meth F_Looks_by_spot hr hk_Looks_by_spot (dv 0) (da_cons (dv 1) (da_nil))) rfl m_list)) (blkOk_by (N := NN_Looks_count_of) (sc := defScope s_Looks_count_of) (by decide +kernel)) (fun _ _ _ _ _ => dgw 2 sc_Looks_count_of.nd (by decide)) (fun _ _ _ _ _ => dts_nil) (fun _ _ _ _ _ => de_callB cd_len rfl m_len boot_len (da_cons (dv 2) (da_nil)))) (da_nil)))))
abbrev s_Looks_pieces : Stmt := subS (topS 14) 4
abbrev NN_Looks_pieces : List Str := ["self", "region"]
theorem sc_Looks_pieces : FnScope NN_Looks_pieces ["self", "region"] (defScope s_Looks_pieces) := ⟨rfl, rfl, rfl, by decide +kernel, rfl, by decide +kernel, by decide +kernel⟩
/-- Looks.pieces -/
noncomputable def B_Looks_pieces (g_wall : FD) : SD := sExpr (eCall 1 g_wall (aCons (eC (.int 0)) (aNil)))
theorem d_Looks_pieces {P : Program} {w : World} {K : PySem.W.Frag} {mg : Str → Option Value} {base : Heap} {j : Nat} {g_wall : FD} {k_wall : Nat} (F_wall : FnD P w K mg base k_wall "_wall" 1 g_wall) (hk_wall : k_wall ≤ j) {cdv : Value} {A : Around} {outer : List PySem.Env} {s : Shared} {H : Hp} {E : XK} {f : Addr} (hr : Room j (A.deeper (envOfC "Looks.pieces" (defScope s_Looks_pieces) s.heap.objs.size f cdv))) :
    DSs (cxOf CX0 P w K mg base NN_Looks_pieces "Looks.pieces" (defScope s_Looks_pieces) f cdv A outer s H E).nox (fun _ _ _ _ => False) (defBody s_Looks_pieces) (B_Looks_pieces g_wall) := by
  have hu := hr.units
  have hu1 := units65 hr
  exact dss_one (ds_expr (de_call F_wall hr hk_wall rfl (da_cons (de_int) (da_nil))))
abbrev s_Looks_put_regions : Stmt := subS (topS 14) 5
abbrev NN_Looks_put_regions : List Str := ["self", "region", "strips"]
theorem sc_Looks_put_regions : FnScope NN_Looks_put_regions ["self", "region", "strips"] (defScope s_Looks_put_regions) := ⟨rfl, rfl, rfl, by decide +kernel, rfl, by decide +kernel, by decide +kernel⟩
/-- Looks.put_regions -/
noncomputable def B_Looks_put_regions (g_wall : FD) : SD := sExpr (eCall 1 g_wall (aCons (eC (.int 1)) (aNil)))
theorem d_Looks_put_regions {P : Program} {w : World} {K : PySem.W.Frag} {mg : Str → Option Value} {base : Heap} {j : Nat} {g_wall : FD} {k_wall : Nat} (F_wall : FnD P w K mg base k_wall "_wall" 1 g_wall) (hk_wall : k_wall ≤ j) {cdv : Value} {A : Around} {outer : List PySem.Env} {s : Shared} {H : Hp} {E : XK} {f : Addr} (hr : Room j (A.deeper (envOfC "Looks.put_regions" (defScope s_Looks_put_regions) s.heap.objs.size f cdv))) :
    DSs (cxOf CX0 P w K mg base NN_Looks_put_regions "Looks.put_regions" (defScope s_Looks_put_regions) f cdv A outer s H E).nox (fun _ _ _ _ => False) (defBody s_Looks_put_regions) (B_Looks_put_regions g_wall) := by
  have hu := hr.units
  have hu1 := units65 hr
  exact dss_one (ds_expr (de_call F_wall hr hk_wall rfl (da_cons (de_int) (da_nil))))
end My

namespace My
open PySem PySem.Spec PyProof.Rows L2 DL
/-! the defs together -/
noncomputable def G_law_draw : FD := gB NN_law_draw (B_law_draw)
noncomputable def G_law_leaf : FD := gB NN_law_leaf (B_law_leaf G_law_draw)
noncomputable def G_law_place : FD := gB NN_law_place (B_law_place G_law_draw)
noncomputable def G_law_choice : Nat → FD
  | 0 => fun _ _ => .st
  | n + 1 => gB NN_law_choice (B_law_choice G_law_draw G_law_place (G_law_choice n))
noncomputable def G_law_parts : FD := gB NN_law_parts (B_law_parts G_law_draw G_law_leaf (G_law_choice 4))
noncomputable def G_is_strip : FD := gB NN_is_strip (B_is_strip)
noncomputable def G_all_pairs : FD := gB NN_all_pairs (B_all_pairs)
noncomputable def G_list_places : Nat → FD
  | 0 => fun _ _ => .st
  | n + 1 => gB NN_list_places (B_list_places (G_list_places n))
noncomputable def G_outline_of_sequence (g_head : FD) : FD := gB NN_outline_of_sequence (B_outline_of_sequence g_head G_all_pairs (G_list_places 6))
noncomputable def G_outline_of_choice (g_head : FD) : FD := gB NN_outline_of_choice (B_outline_of_choice g_head (G_list_places 6))
noncomputable def G_outline : Nat → FD
  | 0 => fun _ _ => .st
  | n + 1 => gB NN_outline (B_outline (G_outline n) (G_outline_of_sequence (G_outline n)) (G_outline_of_choice (G_outline n)) G_all_pairs)
noncomputable def G_machine : FD := gB NN_machine (B_machine (G_outline 6) (G_list_places 6))
noncomputable def G_machines : FD := gB NN_machines (B_machines G_is_strip G_machine)
noncomputable def G_law_cell : FD := gB NN_law_cell (B_law_cell)
noncomputable def G_law_digits : FD := gB NN_law_digits (B_law_digits G_law_cell)
noncomputable def G_law_strip : FD := gB NN_law_strip (B_law_strip)
noncomputable def G_law_same : FD := gB NN_law_same (B_law_same)
noncomputable def G_law_reached : FD := gB NN_law_reached (B_law_reached)
noncomputable def G_extent : FD := gB NN_extent (B_extent)
noncomputable def G_Looks_key : FD := gB NN_Looks_key (B_Looks_key G_extent)
noncomputable def G_looks_from : FD := gB NN_looks_from (B_looks_from)
noncomputable def G_reached : FD := gB NN_reached (B_reached G_looks_from)
noncomputable def G_Looks_by_spot : FD := gB NN_Looks_by_spot (B_Looks_by_spot G_Looks_key G_reached)
noncomputable def G_Looks_count_of : FD := gB NN_Looks_count_of (B_Looks_count_of G_is_strip G_Looks_by_spot)
noncomputable def G_Looks___init__ : FD := gB NN_Looks___init__ (B_Looks___init__ G_machines)
noncomputable def G_look_count : FD := gB NN_look_count (B_look_count G_Looks_count_of G_Looks___init__)
noncomputable def G_law_extent : FD := gB NN_law_extent (B_law_extent)
noncomputable def G_law_piece : FD := gB NN_law_piece (B_law_piece)
noncomputable def G_law_looks : FD := gB NN_law_looks (B_law_looks G_law_strip G_law_extent G_law_reached G_law_piece)
noncomputable def G_spots : FD := gB NN_spots (B_spots G_Looks_by_spot G_Looks___init__)
noncomputable def G_law : FD := gB NN_law (B_law G_law_parts G_machines G_law_digits G_law_draw G_law_strip G_law_same G_law_reached G_look_count G_law_extent G_law_looks G_spots)
def dd_law_draw : He.DefD := ⟨("_law_draw", none), "_law_draw", "_law_draw", defArgs s_law_draw, defBody s_law_draw, defScope s_law_draw, [], []⟩
theorem bb_law_draw : BindsAs "_law_draw" s_law_draw ["box", "many"] := fun _ _ _ _ _ _ us hl => match us, hl with | [_, _], _ => rfl
def dd_law_leaf : He.DefD := ⟨("_law_leaf", none), "_law_leaf", "_law_leaf", defArgs s_law_leaf, defBody s_law_leaf, defScope s_law_leaf, [], []⟩
theorem bb_law_leaf : BindsAs "_law_leaf" s_law_leaf ["box", "k", "wide"] := fun _ _ _ _ _ _ us hl => match us, hl with | [_, _, _], _ => rfl
def dd_law_place : He.DefD := ⟨("_law_place", none), "_law_place", "_law_place", defArgs s_law_place, defBody s_law_place, defScope s_law_place, [], []⟩
theorem bb_law_place : BindsAs "_law_place" s_law_place ["box", "parts", "direction"] := fun _ _ _ _ _ _ us hl => match us, hl with | [_, _, _], _ => rfl
def dd_law_choice : He.DefD := ⟨("_law_choice", none), "_law_choice", "_law_choice", defArgs s_law_choice, defBody s_law_choice, defScope s_law_choice, [], []⟩
theorem bb_law_choice : BindsAs "_law_choice" s_law_choice ["box", "parts", "direction", "depth"] := fun _ _ _ _ _ _ us hl => match us, hl with | [_, _, _, _], _ => rfl
def dd_law_parts : He.DefD := ⟨("_law_parts", none), "_law_parts", "_law_parts", defArgs s_law_parts, defBody s_law_parts, defScope s_law_parts, [], []⟩
theorem bb_law_parts : BindsAs "_law_parts" s_law_parts ["box", "wide", "strips"] := fun _ _ _ _ _ _ us hl => match us, hl with | [_, _, _], _ => rfl
def dd_is_strip : He.DefD := ⟨("is_strip", none), "is_strip", "is_strip", defArgs s_is_strip, defBody s_is_strip, defScope s_is_strip, [], []⟩
theorem bb_is_strip : BindsAs "is_strip" s_is_strip ["part"] := fun _ _ _ _ _ _ us hl => match us, hl with | [_], _ => rfl
def dd_all_pairs : He.DefD := ⟨("all_pairs", none), "all_pairs", "all_pairs", defArgs s_all_pairs, defBody s_all_pairs, defScope s_all_pairs, [], []⟩
theorem bb_all_pairs : BindsAs "all_pairs" s_all_pairs ["ahead", "behind"] := fun _ _ _ _ _ _ us hl => match us, hl with | [_, _], _ => rfl
def dd_list_places : He.DefD := ⟨("list_places", none), "list_places", "list_places", defArgs s_list_places, defBody s_list_places, defScope s_list_places, [], []⟩
theorem bb_list_places : BindsAs "list_places" s_list_places ["expression"] := fun _ _ _ _ _ _ us hl => match us, hl with | [_], _ => rfl
def dd_outline_of_sequence : He.DefD := ⟨("outline_of_sequence", none), "outline_of_sequence", "outline_of_sequence", defArgs s_outline_of_sequence, defBody s_outline_of_sequence, defScope s_outline_of_sequence, [], []⟩
theorem bb_outline_of_sequence : BindsAs "outline_of_sequence" s_outline_of_sequence ["items", "number"] := fun _ _ _ _ _ _ us hl => match us, hl with | [_, _], _ => rfl
def dd_outline_of_choice : He.DefD := ⟨("outline_of_choice", none), "outline_of_choice", "outline_of_choice", defArgs s_outline_of_choice, defBody s_outline_of_choice, defScope s_outline_of_choice, [], []⟩
theorem bb_outline_of_choice : BindsAs "outline_of_choice" s_outline_of_choice ["items", "number"] := fun _ _ _ _ _ _ us hl => match us, hl with | [_, _], _ => rfl
def dd_outline : He.DefD := ⟨("outline", none), "outline", "outline", defArgs s_outline, defBody s_outline, defScope s_outline, [], []⟩
theorem bb_outline : BindsAs "outline" s_outline ["expression", "number"] := fun _ _ _ _ _ _ us hl => match us, hl with | [_, _], _ => rfl
def dd_machine : He.DefD := ⟨("machine", none), "machine", "machine", defArgs s_machine, defBody s_machine, defScope s_machine, [], []⟩
theorem bb_machine : BindsAs "machine" s_machine ["choice"] := fun _ _ _ _ _ _ us hl => match us, hl with | [_], _ => rfl
def dd_machines : He.DefD := ⟨("machines", none), "machines", "machines", defArgs s_machines, defBody s_machines, defScope s_machines, [], []⟩
theorem bb_machines : BindsAs "machines" s_machines ["parts"] := fun _ _ _ _ _ _ us hl => match us, hl with | [_], _ => rfl
def dd_law_cell : He.DefD := ⟨("_law_cell", none), "_law_cell", "_law_cell", defArgs s_law_cell, defBody s_law_cell, defScope s_law_cell, [], []⟩
theorem bb_law_cell : BindsAs "_law_cell" s_law_cell ["script", "k"] := fun _ _ _ _ _ _ us hl => match us, hl with | [_, _], _ => rfl
def dd_law_digits : He.DefD := ⟨("_law_digits", none), "_law_digits", "_law_digits", defArgs s_law_digits, defBody s_law_digits, defScope s_law_digits, [], []⟩
theorem bb_law_digits : BindsAs "_law_digits" s_law_digits ["script", "first", "last"] := fun _ _ _ _ _ _ us hl => match us, hl with | [_, _, _], _ => rfl
def dd_law_strip : He.DefD := ⟨("_law_strip", none), "_law_strip", "_law_strip", defArgs s_law_strip, defBody s_law_strip, defScope s_law_strip, [], []⟩
theorem bb_law_strip : BindsAs "_law_strip" s_law_strip ["part"] := fun _ _ _ _ _ _ us hl => match us, hl with | [_], _ => rfl
def dd_law_same : He.DefD := ⟨("_law_same", none), "_law_same", "_law_same", defArgs s_law_same, defBody s_law_same, defScope s_law_same, [], []⟩
theorem bb_law_same : BindsAs "_law_same" s_law_same ["actual", "due"] := fun _ _ _ _ _ _ us hl => match us, hl with | [_, _], _ => rfl
def dd_law_reached : He.DefD := ⟨("_law_reached", none), "_law_reached", "_law_reached", defArgs s_law_reached, defBody s_law_reached, defScope s_law_reached, [], []⟩
theorem bb_law_reached : BindsAs "_law_reached" s_law_reached ["ways", "number", "far"] := fun _ _ _ _ _ _ us hl => match us, hl with | [_, _, _], _ => rfl
def dd_extent : He.DefD := ⟨("extent", none), "extent", "extent", defArgs s_extent, defBody s_extent, defScope s_extent, [], []⟩
theorem bb_extent : BindsAs "extent" s_extent ["part", "region"] := fun _ _ _ _ _ _ us hl => match us, hl with | [_, _], _ => rfl
def dd_Looks_key : He.DefD := ⟨("Looks", some "key"), "key", "Looks.key", defArgs s_Looks_key, defBody s_Looks_key, defScope s_Looks_key, [], []⟩
theorem bb_Looks_key : BindsM "key" "Looks.key" s_Looks_key ["self", "region"] := fun _ _ _ _ _ _ us hl => match us, hl with | [_, _], _ => rfl
def dd_looks_from : He.DefD := ⟨("looks_from", none), "looks_from", "looks_from", defArgs s_looks_from, defBody s_looks_from, defScope s_looks_from, [], []⟩
theorem bb_looks_from : BindsAs "looks_from" s_looks_from ["moves", "state", "left"] := fun _ _ _ _ _ _ us hl => match us, hl with | [_, _, _], _ => rfl
def dd_reached : He.DefD := ⟨("reached", none), "reached", "reached", defArgs s_reached, defBody s_reached, defScope s_reached, [], []⟩
theorem bb_reached : BindsAs "reached" s_reached ["machine", "end"] := fun _ _ _ _ _ _ us hl => match us, hl with | [_, _], _ => rfl
def dd_Looks_by_spot : He.DefD := ⟨("Looks", some "by_spot"), "by_spot", "Looks.by_spot", defArgs s_Looks_by_spot, defBody s_Looks_by_spot, defScope s_Looks_by_spot, [], []⟩
theorem bb_Looks_by_spot : BindsM "by_spot" "Looks.by_spot" s_Looks_by_spot ["self", "region"] := fun _ _ _ _ _ _ us hl => match us, hl with | [_, _], _ => rfl
def dd_Looks_count_of : He.DefD := ⟨("Looks", some "count_of"), "count_of", "Looks.count_of", defArgs s_Looks_count_of, defBody s_Looks_count_of, defScope s_Looks_count_of, [], []⟩
theorem bb_Looks_count_of : BindsM "count_of" "Looks.count_of" s_Looks_count_of ["self", "region"] := fun _ _ _ _ _ _ us hl => match us, hl with | [_, _], _ => rfl
def dd_Looks___init__ : He.DefD := ⟨("Looks", some "__init__"), "__init__", "Looks.__init__", defArgs s_Looks___init__, defBody s_Looks___init__, defScope s_Looks___init__, [], []⟩
theorem bb_Looks___init__ : BindsM "__init__" "Looks.__init__" s_Looks___init__ ["self", "parts"] := fun _ _ _ _ _ _ us hl => match us, hl with | [_, _], _ => rfl
def dd_look_count : He.DefD := ⟨("look_count", none), "look_count", "look_count", defArgs s_look_count, defBody s_look_count, defScope s_look_count, [], []⟩
theorem bb_look_count : BindsAs "look_count" s_look_count ["parts", "region"] := fun _ _ _ _ _ _ us hl => match us, hl with | [_, _], _ => rfl
def dd_law_extent : He.DefD := ⟨("_law_extent", none), "_law_extent", "_law_extent", defArgs s_law_extent, defBody s_law_extent, defScope s_law_extent, [], []⟩
theorem bb_law_extent : BindsAs "_law_extent" s_law_extent ["part", "region"] := fun _ _ _ _ _ _ us hl => match us, hl with | [_, _], _ => rfl
def dd_law_piece : He.DefD := ⟨("_law_piece", none), "_law_piece", "_law_piece", defArgs s_law_piece, defBody s_law_piece, defScope s_law_piece, [], []⟩
theorem bb_law_piece : BindsAs "_law_piece" s_law_piece ["part", "region", "number", "offset", "size"] := fun _ _ _ _ _ _ us hl => match us, hl with | [_, _, _, _, _], _ => rfl
def dd_law_looks : He.DefD := ⟨("_law_looks", none), "_law_looks", "_law_looks", defArgs s_law_looks, defBody s_law_looks, defScope s_law_looks, [], []⟩
theorem bb_law_looks : BindsAs "_law_looks" s_law_looks ["parts", "ways", "region"] := fun _ _ _ _ _ _ us hl => match us, hl with | [_, _, _], _ => rfl
def dd_spots : He.DefD := ⟨("spots", none), "spots", "spots", defArgs s_spots, defBody s_spots, defScope s_spots, [], []⟩
theorem bb_spots : BindsAs "spots" s_spots ["parts", "region"] := fun _ _ _ _ _ _ us hl => match us, hl with | [_, _], _ => rfl
def dd_law : He.DefD := ⟨("law", none), "law", "law", defArgs s_law, defBody s_law, defScope s_law, [], []⟩
theorem bb_law : BindsAs "law" s_law ["script"] := fun _ _ _ _ _ _ us hl => match us, hl with | [_], _ => rfl
def fnsD : List He.DefD := [dd_law_draw, dd_law_leaf, dd_law_place, dd_law_choice, dd_law_parts, dd_is_strip, dd_all_pairs, dd_list_places, dd_outline_of_sequence, dd_outline_of_choice, dd_outline, dd_machine, dd_machines, dd_law_cell, dd_law_digits, dd_law_strip, dd_law_same, dd_law_reached, dd_extent, dd_Looks_key, dd_looks_from, dd_reached, dd_Looks_by_spot, dd_Looks_count_of, dd_Looks___init__, dd_look_count, dd_law_extent, dd_law_piece, dd_law_looks, dd_spots, dd_law]
def faD0 : List He.Fa := [.glo "_law_draw", .glo "_law_leaf", .glo "_law_place", .glo "_law_choice", .glo "_law_parts", .glo "is_strip", .glo "all_pairs", .glo "list_places", .glo "outline_of_sequence", .glo "outline_of_choice", .glo "outline", .glo "machine", .glo "machines", .glo "_law_cell", .glo "_law_digits", .glo "_law_strip", .glo "_law_same", .glo "_law_reached", .glo "extent", .glo "looks_from", .glo "reached", .glo "look_count", .glo "_law_extent", .glo "_law_piece", .glo "_law_looks", .glo "spots", .glo "law", .free "int", .free "len", .free "range"]
def faD1 : List He.Fa := [.free "str", .free "tuple", .free "sorted", .free "repr", .free "min", .free "list", .free "sum", .glo "Looks", .cls "Looks", .noat "Looks" "parts", .noat "Looks" "reached", .noat "Looks" "table", .noat "Looks" "put", .meth "Looks" "key", .meth "Looks" "by_spot", .meth "Looks" "count_of", .mkr "Looks"]
def faD : List He.Fa := faD0 ++ faD1
def moreD (K : PySem.W.Frag) : Bool := true
theorem all_fns {P : Program} {w : World} {K : PySem.W.Frag} {h base : Heap} {mg : Str → Option Value} (X : K.In h) (G : h.Ns mainGlobals mg) (c : He.SaysD faD fnsD K) (cm : moreD K = true) :
    ∃ (f : Addr) (fd : FuncData), mg "law" = some (.ref f) ∧ FunS K "law" s_law f fd ∧ ∀ (s : Shared) (H : Hp) (a : Addr) (Q : VK) (E : XK), Env0 P w K mg base callerA [] s H → spOf K mg 1 (fun ds S => noEx (G_law ds S)) [.ref a] H Q E → codeAny (model P w) callerA (.call (.ref f) ⟨[.ref a], []⟩) (CR CX0 [] P w H s Q E) s := by
  obtain ⟨fd_law_draw, U_law_draw⟩ := c.def_ 0 (d := dd_law_draw) rfl
  have U_law_draw : FunS K "_law_draw" s_law_draw (He.ga K "_law_draw") fd_law_draw := U_law_draw
  obtain ⟨fd_law_leaf, U_law_leaf⟩ := c.def_ 1 (d := dd_law_leaf) rfl
  have U_law_leaf : FunS K "_law_leaf" s_law_leaf (He.ga K "_law_leaf") fd_law_leaf := U_law_leaf
  obtain ⟨fd_law_place, U_law_place⟩ := c.def_ 2 (d := dd_law_place) rfl
  have U_law_place : FunS K "_law_place" s_law_place (He.ga K "_law_place") fd_law_place := U_law_place
  obtain ⟨fd_law_choice, U_law_choice⟩ := c.def_ 3 (d := dd_law_choice) rfl
  have U_law_choice : FunS K "_law_choice" s_law_choice (He.ga K "_law_choice") fd_law_choice := U_law_choice
  obtain ⟨fd_law_parts, U_law_parts⟩ := c.def_ 4 (d := dd_law_parts) rfl
  have U_law_parts : FunS K "_law_parts" s_law_parts (He.ga K "_law_parts") fd_law_parts := U_law_parts
  obtain ⟨fd_is_strip, U_is_strip⟩ := c.def_ 5 (d := dd_is_strip) rfl
  have U_is_strip : FunS K "is_strip" s_is_strip (He.ga K "is_strip") fd_is_strip := U_is_strip
  obtain ⟨fd_all_pairs, U_all_pairs⟩ := c.def_ 6 (d := dd_all_pairs) rfl
  have U_all_pairs : FunS K "all_pairs" s_all_pairs (He.ga K "all_pairs") fd_all_pairs := U_all_pairs
  obtain ⟨fd_list_places, U_list_places⟩ := c.def_ 7 (d := dd_list_places) rfl
  have U_list_places : FunS K "list_places" s_list_places (He.ga K "list_places") fd_list_places := U_list_places
  obtain ⟨fd_outline_of_sequence, U_outline_of_sequence⟩ := c.def_ 8 (d := dd_outline_of_sequence) rfl
  have U_outline_of_sequence : FunS K "outline_of_sequence" s_outline_of_sequence (He.ga K "outline_of_sequence") fd_outline_of_sequence := U_outline_of_sequence
  obtain ⟨fd_outline_of_choice, U_outline_of_choice⟩ := c.def_ 9 (d := dd_outline_of_choice) rfl
  have U_outline_of_choice : FunS K "outline_of_choice" s_outline_of_choice (He.ga K "outline_of_choice") fd_outline_of_choice := U_outline_of_choice
  obtain ⟨fd_outline, U_outline⟩ := c.def_ 10 (d := dd_outline) rfl
  have U_outline : FunS K "outline" s_outline (He.ga K "outline") fd_outline := U_outline
  obtain ⟨fd_machine, U_machine⟩ := c.def_ 11 (d := dd_machine) rfl
  have U_machine : FunS K "machine" s_machine (He.ga K "machine") fd_machine := U_machine
  obtain ⟨fd_machines, U_machines⟩ := c.def_ 12 (d := dd_machines) rfl
  have U_machines : FunS K "machines" s_machines (He.ga K "machines") fd_machines := U_machines
  obtain ⟨fd_law_cell, U_law_cell⟩ := c.def_ 13 (d := dd_law_cell) rfl
  have U_law_cell : FunS K "_law_cell" s_law_cell (He.ga K "_law_cell") fd_law_cell := U_law_cell
  obtain ⟨fd_law_digits, U_law_digits⟩ := c.def_ 14 (d := dd_law_digits) rfl
  have U_law_digits : FunS K "_law_digits" s_law_digits (He.ga K "_law_digits") fd_law_digits := U_law_digits
  obtain ⟨fd_law_strip, U_law_strip⟩ := c.def_ 15 (d := dd_law_strip) rfl
  have U_law_strip : FunS K "_law_strip" s_law_strip (He.ga K "_law_strip") fd_law_strip := U_law_strip
  obtain ⟨fd_law_same, U_law_same⟩ := c.def_ 16 (d := dd_law_same) rfl
  have U_law_same : FunS K "_law_same" s_law_same (He.ga K "_law_same") fd_law_same := U_law_same
  obtain ⟨fd_law_reached, U_law_reached⟩ := c.def_ 17 (d := dd_law_reached) rfl
  have U_law_reached : FunS K "_law_reached" s_law_reached (He.ga K "_law_reached") fd_law_reached := U_law_reached
  obtain ⟨fd_extent, U_extent⟩ := c.def_ 18 (d := dd_extent) rfl
  have U_extent : FunS K "extent" s_extent (He.ga K "extent") fd_extent := U_extent
  obtain ⟨fd_Looks_key, U_Looks_key⟩ := c.def_ 19 (d := dd_Looks_key) rfl
  have U_Looks_key : FunD K "key" "Looks.key" (defArgs s_Looks_key) (defBody s_Looks_key) (defScope s_Looks_key) [] [] (He.ma K (He.ga K "Looks") "key") fd_Looks_key := U_Looks_key
  obtain ⟨fd_looks_from, U_looks_from⟩ := c.def_ 20 (d := dd_looks_from) rfl
  have U_looks_from : FunS K "looks_from" s_looks_from (He.ga K "looks_from") fd_looks_from := U_looks_from
  obtain ⟨fd_reached, U_reached⟩ := c.def_ 21 (d := dd_reached) rfl
  have U_reached : FunS K "reached" s_reached (He.ga K "reached") fd_reached := U_reached
  obtain ⟨fd_Looks_by_spot, U_Looks_by_spot⟩ := c.def_ 22 (d := dd_Looks_by_spot) rfl
  have U_Looks_by_spot : FunD K "by_spot" "Looks.by_spot" (defArgs s_Looks_by_spot) (defBody s_Looks_by_spot) (defScope s_Looks_by_spot) [] [] (He.ma K (He.ga K "Looks") "by_spot") fd_Looks_by_spot := U_Looks_by_spot
  obtain ⟨fd_Looks_count_of, U_Looks_count_of⟩ := c.def_ 23 (d := dd_Looks_count_of) rfl
  have U_Looks_count_of : FunD K "count_of" "Looks.count_of" (defArgs s_Looks_count_of) (defBody s_Looks_count_of) (defScope s_Looks_count_of) [] [] (He.ma K (He.ga K "Looks") "count_of") fd_Looks_count_of := U_Looks_count_of
  obtain ⟨fd_Looks___init__, U_Looks___init__⟩ := c.def_ 24 (d := dd_Looks___init__) rfl
  have U_Looks___init__ : FunD K "__init__" "Looks.__init__" (defArgs s_Looks___init__) (defBody s_Looks___init__) (defScope s_Looks___init__) [] [] (He.ma K (He.ga K "Looks") "__init__") fd_Looks___init__ := U_Looks___init__
  obtain ⟨fd_look_count, U_look_count⟩ := c.def_ 25 (d := dd_look_count) rfl
  have U_look_count : FunS K "look_count" s_look_count (He.ga K "look_count") fd_look_count := U_look_count
  obtain ⟨fd_law_extent, U_law_extent⟩ := c.def_ 26 (d := dd_law_extent) rfl
  have U_law_extent : FunS K "_law_extent" s_law_extent (He.ga K "_law_extent") fd_law_extent := U_law_extent
  obtain ⟨fd_law_piece, U_law_piece⟩ := c.def_ 27 (d := dd_law_piece) rfl
  have U_law_piece : FunS K "_law_piece" s_law_piece (He.ga K "_law_piece") fd_law_piece := U_law_piece
  obtain ⟨fd_law_looks, U_law_looks⟩ := c.def_ 28 (d := dd_law_looks) rfl
  have U_law_looks : FunS K "_law_looks" s_law_looks (He.ga K "_law_looks") fd_law_looks := U_law_looks
  obtain ⟨fd_spots, U_spots⟩ := c.def_ 29 (d := dd_spots) rfl
  have U_spots : FunS K "spots" s_spots (He.ga K "spots") fd_spots := U_spots
  obtain ⟨fd_law, U_law⟩ := c.def_ 30 (d := dd_law) rfl
  have U_law : FunS K "law" s_law (He.ga K "law") fd_law := U_law
  have e_law_draw : mg "_law_draw" = some (.ref (He.ga K "_law_draw")) := He.glo_ok X G (c.fact 0 (f := .glo "_law_draw") rfl)
  have e_law_leaf : mg "_law_leaf" = some (.ref (He.ga K "_law_leaf")) := He.glo_ok X G (c.fact 1 (f := .glo "_law_leaf") rfl)
  have e_law_place : mg "_law_place" = some (.ref (He.ga K "_law_place")) := He.glo_ok X G (c.fact 2 (f := .glo "_law_place") rfl)
  have e_law_choice : mg "_law_choice" = some (.ref (He.ga K "_law_choice")) := He.glo_ok X G (c.fact 3 (f := .glo "_law_choice") rfl)
  have e_law_parts : mg "_law_parts" = some (.ref (He.ga K "_law_parts")) := He.glo_ok X G (c.fact 4 (f := .glo "_law_parts") rfl)
  have e_is_strip : mg "is_strip" = some (.ref (He.ga K "is_strip")) := He.glo_ok X G (c.fact 5 (f := .glo "is_strip") rfl)
  have e_all_pairs : mg "all_pairs" = some (.ref (He.ga K "all_pairs")) := He.glo_ok X G (c.fact 6 (f := .glo "all_pairs") rfl)
  have e_list_places : mg "list_places" = some (.ref (He.ga K "list_places")) := He.glo_ok X G (c.fact 7 (f := .glo "list_places") rfl)
  have e_outline_of_sequence : mg "outline_of_sequence" = some (.ref (He.ga K "outline_of_sequence")) := He.glo_ok X G (c.fact 8 (f := .glo "outline_of_sequence") rfl)
  have e_outline_of_choice : mg "outline_of_choice" = some (.ref (He.ga K "outline_of_choice")) := He.glo_ok X G (c.fact 9 (f := .glo "outline_of_choice") rfl)
  have e_outline : mg "outline" = some (.ref (He.ga K "outline")) := He.glo_ok X G (c.fact 10 (f := .glo "outline") rfl)
  have e_machine : mg "machine" = some (.ref (He.ga K "machine")) := He.glo_ok X G (c.fact 11 (f := .glo "machine") rfl)
  have e_machines : mg "machines" = some (.ref (He.ga K "machines")) := He.glo_ok X G (c.fact 12 (f := .glo "machines") rfl)
  have e_law_cell : mg "_law_cell" = some (.ref (He.ga K "_law_cell")) := He.glo_ok X G (c.fact 13 (f := .glo "_law_cell") rfl)
  have e_law_digits : mg "_law_digits" = some (.ref (He.ga K "_law_digits")) := He.glo_ok X G (c.fact 14 (f := .glo "_law_digits") rfl)
  have e_law_strip : mg "_law_strip" = some (.ref (He.ga K "_law_strip")) := He.glo_ok X G (c.fact 15 (f := .glo "_law_strip") rfl)
  have e_law_same : mg "_law_same" = some (.ref (He.ga K "_law_same")) := He.glo_ok X G (c.fact 16 (f := .glo "_law_same") rfl)
  have e_law_reached : mg "_law_reached" = some (.ref (He.ga K "_law_reached")) := He.glo_ok X G (c.fact 17 (f := .glo "_law_reached") rfl)
  have e_extent : mg "extent" = some (.ref (He.ga K "extent")) := He.glo_ok X G (c.fact 18 (f := .glo "extent") rfl)
  have e_looks_from : mg "looks_from" = some (.ref (He.ga K "looks_from")) := He.glo_ok X G (c.fact 19 (f := .glo "looks_from") rfl)
  have e_reached : mg "reached" = some (.ref (He.ga K "reached")) := He.glo_ok X G (c.fact 20 (f := .glo "reached") rfl)
  have e_look_count : mg "look_count" = some (.ref (He.ga K "look_count")) := He.glo_ok X G (c.fact 21 (f := .glo "look_count") rfl)
  have e_law_extent : mg "_law_extent" = some (.ref (He.ga K "_law_extent")) := He.glo_ok X G (c.fact 22 (f := .glo "_law_extent") rfl)
  have e_law_piece : mg "_law_piece" = some (.ref (He.ga K "_law_piece")) := He.glo_ok X G (c.fact 23 (f := .glo "_law_piece") rfl)
  have e_law_looks : mg "_law_looks" = some (.ref (He.ga K "_law_looks")) := He.glo_ok X G (c.fact 24 (f := .glo "_law_looks") rfl)
  have e_spots : mg "spots" = some (.ref (He.ga K "spots")) := He.glo_ok X G (c.fact 25 (f := .glo "spots") rfl)
  have e_law : mg "law" = some (.ref (He.ga K "law")) := He.glo_ok X G (c.fact 26 (f := .glo "law") rfl)
  have e_Looks : mg "Looks" = some (.ref (He.ga K "Looks")) := He.glo_ok X G (c.fact 37 (f := .glo "Looks") rfl)
  have K_Looks : Cls K (He.ga K "Looks") := He.cls_ok (c.fact 38 (f := .cls "Looks") rfl)
  have N_Looks_parts : NoAttr K (He.ga K "Looks") "parts" := He.noat_ok (c.fact 39 (f := .noat "Looks" "parts") rfl)
  have N_Looks_reached : NoAttr K (He.ga K "Looks") "reached" := He.noat_ok (c.fact 40 (f := .noat "Looks" "reached") rfl)
  have N_Looks_table : NoAttr K (He.ga K "Looks") "table" := He.noat_ok (c.fact 41 (f := .noat "Looks" "table") rfl)
  have N_Looks_put : NoAttr K (He.ga K "Looks") "put" := He.noat_ok (c.fact 42 (f := .noat "Looks" "put") rfl)
  have M_Looks_key : Meth K (He.ga K "Looks") "key" (He.ma K (He.ga K "Looks") "key") := He.meth_ok (c.fact 43 (f := .meth "Looks" "key") rfl)
  have M_Looks_by_spot : Meth K (He.ga K "Looks") "by_spot" (He.ma K (He.ga K "Looks") "by_spot") := He.meth_ok (c.fact 44 (f := .meth "Looks" "by_spot") rfl)
  have M_Looks_count_of : Meth K (He.ga K "Looks") "count_of" (He.ma K (He.ga K "Looks") "count_of") := He.meth_ok (c.fact 45 (f := .meth "Looks" "count_of") rfl)
  have MK_Looks : Mk K (He.ga K "Looks") (He.ma K (He.ga K "Looks") "__init__") := He.mkr_ok (c.fact 46 (f := .mkr "Looks") rfl)
  have m_int : mg "int" = none := He.free_ok X G (c.fact 27 (f := .free "int") rfl)
  have m_len : mg "len" = none := He.free_ok X G (c.fact 28 (f := .free "len") rfl)
  have m_range : mg "range" = none := He.free_ok X G (c.fact 29 (f := .free "range") rfl)
  have m_str : mg "str" = none := He.free_ok X G (c.fact 30 (f := .free "str") rfl)
  have m_tuple : mg "tuple" = none := He.free_ok X G (c.fact 31 (f := .free "tuple") rfl)
  have m_sorted : mg "sorted" = none := He.free_ok X G (c.fact 32 (f := .free "sorted") rfl)
  have m_repr : mg "repr" = none := He.free_ok X G (c.fact 33 (f := .free "repr") rfl)
  have m_min : mg "min" = none := He.free_ok X G (c.fact 34 (f := .free "min") rfl)
  have m_list : mg "list" = none := He.free_ok X G (c.fact 35 (f := .free "list") rfl)
  have m_sum : mg "sum" = none := He.free_ok X G (c.fact 36 (f := .free "sum") rfl)
  have F_law_draw : FnD P w K mg base 1 "_law_draw" 2 G_law_draw := fn_dl U_law_draw sc_law_draw e_law_draw bb_law_draw rfl (fun cdv A outer s H E hr => d_law_draw m_int m_len hr)
  have F_law_leaf : FnD P w K mg base 2 "_law_leaf" 3 G_law_leaf := fn_dl U_law_leaf sc_law_leaf e_law_leaf bb_law_leaf rfl (fun cdv A outer s H E hr => d_law_leaf F_law_draw (by decide) m_range m_str m_tuple hr)
  have F_law_place : FnD P w K mg base 2 "_law_place" 3 G_law_place := fn_dl U_law_place sc_law_place e_law_place bb_law_place rfl (fun cdv A outer s H E hr => d_law_place F_law_draw (by decide) m_int m_len hr)
  have F_law_choice_ : ∀ n, FnD P w K mg base (n + 2) "_law_choice" 4 (G_law_choice n) := by
    intro n
    induction n with
    | zero => exact fnD_st U_law_choice e_law_choice bb_law_choice rfl
    | succ n ih =>
      rw [show n + 1 + 2 = n + 2 + 1 by omega]
      exact fn_dl U_law_choice sc_law_choice e_law_choice bb_law_choice rfl (fun cdv A outer s H E hr => d_law_choice F_law_draw (by omega) F_law_place (by omega) ih (Nat.le_refl _) m_int m_range m_tuple hr)
  have F_law_choice := F_law_choice_ 4
  have F_law_parts : FnD P w K mg base 7 "_law_parts" 3 G_law_parts := fn_dl U_law_parts sc_law_parts e_law_parts bb_law_parts rfl (fun cdv A outer s H E hr => d_law_parts F_law_draw (by decide) F_law_leaf (by decide) F_law_choice (by decide) m_range m_str m_tuple hr)
  have F_is_strip : FnD P w K mg base 1 "is_strip" 1 G_is_strip := fn_dl U_is_strip sc_is_strip e_is_strip bb_is_strip rfl (fun cdv A outer s H E hr => d_is_strip  hr)
  have F_all_pairs : FnD P w K mg base 1 "all_pairs" 2 G_all_pairs := fn_dl U_all_pairs sc_all_pairs e_all_pairs bb_all_pairs rfl (fun cdv A outer s H E hr => d_all_pairs  hr)
  have F_list_places_ : ∀ n, FnD P w K mg base (n + 0) "list_places" 1 (G_list_places n) := by
    intro n
    induction n with
    | zero => exact fnD_st U_list_places e_list_places bb_list_places rfl
    | succ n ih =>
      rw [show n + 1 + 0 = n + 0 + 1 by omega]
      exact fn_dl U_list_places sc_list_places e_list_places bb_list_places rfl (fun cdv A outer s H E hr => d_list_places ih (Nat.le_refl _) hr)
  have F_list_places := F_list_places_ 6
  have F_outline_ : ∀ n, FnD P w K mg base (2 * n + 6) "outline" 2 (G_outline n) := by
    intro n
    induction n with
    | zero => exact fnD_st U_outline e_outline bb_outline rfl
    | succ n ih =>
      have FR_outline_of_sequence : FnD P w K mg base (2 * n + 6 + 1) "outline_of_sequence" 2 (G_outline_of_sequence (G_outline n)) := fn_dl U_outline_of_sequence sc_outline_of_sequence e_outline_of_sequence bb_outline_of_sequence rfl (fun cdv A outer s H E hr => d_outline_of_sequence ih (by omega) F_all_pairs (by omega) F_list_places (by omega) m_len hr)
      have FR_outline_of_choice : FnD P w K mg base (2 * n + 6 + 1) "outline_of_choice" 2 (G_outline_of_choice (G_outline n)) := fn_dl U_outline_of_choice sc_outline_of_choice e_outline_of_choice bb_outline_of_choice rfl (fun cdv A outer s H E hr => d_outline_of_choice ih (by omega) F_list_places (by omega) m_len hr)
      rw [show 2 * (n + 1) + 6 = 2 * n + 6 + 1 + 1 by omega]
      exact fn_dl U_outline sc_outline e_outline bb_outline rfl (fun cdv A outer s H E hr => d_outline ih (by omega) FR_outline_of_sequence (by omega) FR_outline_of_choice (by omega) F_all_pairs (by omega) hr)
  have F_outline := F_outline_ 6
  have F_machine : FnD P w K mg base 19 "machine" 1 G_machine := fn_dl U_machine sc_machine e_machine bb_machine rfl (fun cdv A outer s H E hr => d_machine F_outline (by decide) F_list_places (by decide) m_len m_range m_sorted m_tuple hr)
  have F_machines : FnD P w K mg base 20 "machines" 1 G_machines := fn_dl U_machines sc_machines e_machines bb_machines rfl (fun cdv A outer s H E hr => d_machines F_is_strip (by decide) F_machine (by decide) m_tuple hr)
  have F_law_cell : FnD P w K mg base 1 "_law_cell" 2 G_law_cell := fn_dl U_law_cell sc_law_cell e_law_cell bb_law_cell rfl (fun cdv A outer s H E hr => d_law_cell m_len hr)
  have F_law_digits : FnD P w K mg base 2 "_law_digits" 3 G_law_digits := fn_dl U_law_digits sc_law_digits e_law_digits bb_law_digits rfl (fun cdv A outer s H E hr => d_law_digits F_law_cell (by decide) m_int m_range hr)
  have F_law_strip : FnD P w K mg base 1 "_law_strip" 1 G_law_strip := fn_dl U_law_strip sc_law_strip e_law_strip bb_law_strip rfl (fun cdv A outer s H E hr => d_law_strip  hr)
  have F_law_same : FnG P w K mg base 1 "_law_same" 2 G_law_same := fn_dlG U_law_same sc_law_same e_law_same bb_law_same rfl (fun cdv A outer s H E hr hgd => d_law_same m_repr hr hgd)
  have F_law_reached : FnD P w K mg base 1 "_law_reached" 3 G_law_reached := fn_dl U_law_reached sc_law_reached e_law_reached bb_law_reached rfl (fun cdv A outer s H E hr => d_law_reached m_len m_range m_sorted hr)
  have F_extent : FnD P w K mg base 1 "extent" 2 G_extent := fn_dl U_extent sc_extent e_extent bb_extent rfl (fun cdv A outer s H E hr => d_extent  hr)
  have F_Looks_key : FnM P w K mg base 2 "Looks" "key" 2 G_Looks_key := fn_dlM U_Looks_key sc_Looks_key e_Looks K_Looks M_Looks_key bb_Looks_key rfl (fun cdv A outer s H E hr => d_Looks_key e_Looks K_Looks N_Looks_parts F_extent (by decide) hr)
  have F_looks_from : FnD P w K mg base 1 "looks_from" 3 G_looks_from := fn_dl U_looks_from sc_looks_from e_looks_from bb_looks_from rfl (fun cdv A outer s H E hr => d_looks_from m_len m_min m_range hr)
  have F_reached : FnD P w K mg base 2 "reached" 2 G_reached := fn_dl U_reached sc_reached e_reached bb_reached rfl (fun cdv A outer s H E hr => d_reached F_looks_from (by decide) m_range m_sorted hr)
  have F_Looks_by_spot : FnM P w K mg base 3 "Looks" "by_spot" 2 G_Looks_by_spot := fn_dlM U_Looks_by_spot sc_Looks_by_spot e_Looks K_Looks M_Looks_by_spot bb_Looks_by_spot rfl (fun cdv A outer s H E hr => d_Looks_by_spot e_Looks K_Looks N_Looks_reached N_Looks_table F_Looks_key (by decide) F_reached (by decide) hr)
  have F_Looks_count_of : FnM P w K mg base 4 "Looks" "count_of" 2 G_Looks_count_of := fn_dlM U_Looks_count_of sc_Looks_count_of e_Looks K_Looks M_Looks_count_of bb_Looks_count_of rfl (fun cdv A outer s H E hr => d_Looks_count_of e_Looks K_Looks N_Looks_parts F_is_strip (by decide) F_Looks_by_spot (by decide) m_len m_list m_sum hr)
  have F_Looks___init__ : FnI P w K mg base 21 "Looks" 2 G_Looks___init__ := fn_dlI U_Looks___init__ sc_Looks___init__ e_Looks MK_Looks bb_Looks___init__ rfl (fun cdv A outer s H E hr => d_Looks___init__ e_Looks K_Looks N_Looks_parts N_Looks_table N_Looks_reached N_Looks_put F_machines (by decide) hr)
  have F_look_count : FnD P w K mg base 23 "look_count" 2 G_look_count := fn_dl U_look_count sc_look_count e_look_count bb_look_count rfl (fun cdv A outer s H E hr => d_look_count F_Looks_count_of (by decide) F_Looks___init__ (by decide) hr)
  have F_law_extent : FnD P w K mg base 1 "_law_extent" 2 G_law_extent := fn_dl U_law_extent sc_law_extent e_law_extent bb_law_extent rfl (fun cdv A outer s H E hr => d_law_extent  hr)
  have F_law_piece : FnD P w K mg base 1 "_law_piece" 5 G_law_piece := fn_dl U_law_piece sc_law_piece e_law_piece bb_law_piece rfl (fun cdv A outer s H E hr => d_law_piece  hr)
  have F_law_looks : FnD P w K mg base 2 "_law_looks" 3 G_law_looks := fn_dl U_law_looks sc_law_looks e_law_looks bb_law_looks rfl (fun cdv A outer s H E hr => d_law_looks F_law_strip (by decide) F_law_extent (by decide) F_law_reached (by decide) F_law_piece (by decide) m_min m_range hr)
  have F_spots : FnD P w K mg base 23 "spots" 2 G_spots := fn_dl U_spots sc_spots e_spots bb_spots rfl (fun cdv A outer s H E hr => d_spots F_Looks_by_spot (by decide) F_Looks___init__ (by decide) m_list hr)
  have hroom : Room (23 + 1) callerA := ⟨rfl, by decide +kernel, by decide +kernel⟩
  refine ⟨_, fd_law, e_law, U_law, fun s H a Q E e0 h => ?_⟩
  exact DL.run_at U_law sc_law hroom rfl (fun cdv A outer s H E hr hgd => d_law F_law_parts (by decide) F_machines (by decide) F_law_digits (by decide) F_law_draw (by decide) F_law_strip (by decide) F_law_same (by decide) F_law_reached (by decide) F_look_count (by decide) F_law_extent (by decide) F_law_looks (by decide) F_spots (by decide) m_len m_range hr hgd) rfl e0 (FunD.bindsA (ps := ["script"]) U_law (fun _ _ _ _ _ _ us hl => match us, hl with | [_], _ => rfl) s [.ref a] rfl) (show L2.Vals [V.ref a] [Value.ref a] from .cons rfl .nil) h
def names0 : List PySem.Str := ["_wall", "is_strip", "extent", "list_places", "outline", "all_pairs", "outline_of_sequence", "outline_of_choice", "machine", "machines", "reached", "looks_from", "Looks", "spots", "look_count", "_law_cell", "_law_digits", "_law_draw", "_law_same", "_law_leaf", "_law_place", "_law_choice", "_law_parts", "_law_strip", "_law_extent", "_law_piece", "_law_fits", "_law_reached", "_law_looks"]
def namesD : List PySem.Str := names0
abbrev RR : PySem.W.OpenRow := PySem.W.OpenLaw.row PySem.Challenge.rw_surelyread_k16_spots_reach
abbrev hkD : PySem.W.Hook := hookM 4 faD fnsD moreD
theorem runD (w : World) : HandSHeadRun.RunEq RR (PySem.W.view RR.prog [32]) hkD (obM 4 faD fnsD moreD) 6000 namesD w := by
  intro os
  kernel_rfl
end My

namespace My
open PySem PySem.Spec PyProof.Rows L2 DL
/-! ### what is drawn -/
def boxO (dg : List Int) (at_ : Nat) : O := .lst [.p (.list (dg.map .int)), .p (.int at_)]
def drawV (dg : List Int) (at_ : Nat) (many : Int) : Int := (match dg[at_]? with | some d => d | none => (at_ : Int) * 7 + 3) % many
theorem drawV_lt {dg : List Int} {at_ : Nat} {many : Int} (h : 0 < many) : 0 ≤ drawV dg at_ many ∧ drawV dg at_ many < many := by
  unfold drawV
  exact ⟨Int.emod_nonneg _ (by omega), Int.emod_lt_of_pos _ h⟩
theorem clS_nil {k : Nat} : ClS k [] := fun _ h => by cases h
theorem clS_set {k n : Nat} {S : Sto} {o : O} (h : ClS k S) (ho : ClO k o) : ClS k (S.set n o) := fun x hx => by
  rcases List.mem_or_eq_of_mem_set hx with h' | rfl
  · exact h x h'
  · exact ho
theorem clS_app {k : Nat} {S T : Sto} (h : ClS k S) (h2 : ClS k T) : ClS k (S ++ T) := fun x hx => by
  rcases List.mem_append.mp hx with h' | h'
  · exact h x h'
  · exact h2 x h'
theorem clS_one {k : Nat} {o : O} (h : ClO k o) : ClS k [o] := fun x hx => by
  rw [List.mem_singleton.mp hx]
  exact h
theorem clO_box {k : Nat} {dg : List Int} {at_ : Nat} : ClO k (boxO dg at_) := fun d hd => by
  simp at hd
  rcases hd with rfl | rfl <;> trivial
theorem clO_p {k : Nat} {l : List PyData} : ClO k (.lst (l.map .p)) := fun d hd => by
  obtain ⟨p, _, rfl⟩ := List.mem_map.mp hd
  trivial
theorem clD_mono {k k' : Nat} {d : D} (hk : k ≤ k') (q : ClD k d) : ClD k' d := by
  cases d with
  | ob n => exact Nat.lt_of_lt_of_le q hk
  | _ => trivial
theorem clS_mono {k k' : Nat} {S : Sto} (hk : k ≤ k') (h : ClS k S) : ClS k' S := by
  intro o ho
  have q := h o ho
  cases o with
  | lst l => exact fun d hd => clD_mono hk (q d hd)
  | fz l => trivial
  | dic l => exact fun d hd => clD_mono hk (q d hd)
  | dik l => exact fun d hd => clD_mono hk (q d hd)
  | ins c l => exact fun d hd => clD_mono hk (q d hd)
theorem draw_ok {S : Sto} {n : Nat} {dg : List Int} {at_ : Nat} {many : Int} (hs : S[n]? = some (boxO dg at_)) (hm : 0 < many) (hc : ClS 0 S) :
    G_law_draw [.ob n, .int many] S = .ok (.int (drawV dg at_ many)) (S.set n (boxO dg (at_ + 1))) := by
  have hl : n < S.length := (List.getElem?_eq_some_iff.mp hs).1
  refine gB_rt (T := []) ?_ (by simp) (clS_set (clS_mono (Nat.zero_le _) hc) clO_box)
  rw [List.append_nil]
  by_cases h : at_ < dg.length
  · have e : dg[at_]? = some dg[at_] := List.getElem?_eq_getElem h
    simp [B_law_draw, start0, hs, boxO, List.getElem?_set_self hl, drawV, h, e, hm]
  · have e : dg[at_]? = none := List.getElem?_eq_none (by omega)
    simp [B_law_draw, start0, hs, boxO, List.getElem?_set_self hl, drawV, h, e, hm]
theorem cell_ok {S : Sto} {ns : List Int} {k : Nat} (hc : ClS 0 S) : ∃ c : Int, G_law_cell [.scr ns, .int k] S = .ok (.int c) S := by
  by_cases h : k < ns.length
  · have e : ns[k]? = some ns[k] := List.getElem?_eq_getElem h
    refine ⟨ns[k], gB_rt (T := []) ?_ rfl (clS_mono (Nat.zero_le _) hc)⟩
    simp [B_law_cell, start0, h, e]
  · refine ⟨0, gB_rt (T := []) ?_ rfl (clS_mono (Nat.zero_le _) hc)⟩
    simp [B_law_cell, start0, h]
end My

namespace My
open PySem PySem.Spec PyProof.Rows L2 DL
/-! ### the digits of a script -/
noncomputable def d60 : SD := (sIf (asB (eBin gGt (eVar 5) (eC (.int 0)))) (sSeq (sExpr (eMth gApp (eVar 3) (aCons (eBin gMod (eB gToInt (aCons (eVar 5) (aNil))) (eC (.int 1000))) (aNil)))) (sSet 5 (eBin gFdv (eVar 5) (eC (.int 1000))))) (sNil))
noncomputable def d12 : SD := (sSeq (sSet 7 (eBin gMod (eB gToInt (aCons (eBin gAdd (eBin gAdd (eBin gMul (eVar 7) (eC (.int 16807))) (eBin gMul (eC (.int 7)) (eVar 6))) (eC (.int 1))) (aNil))) (eC (.int 2147483647)))) (sExpr (eMth gApp (eVar 3) (aCons (eBin gMod (eB gToInt (aCons (eBin gFdv (eVar 7) (eC (.int 997))) (aNil))) (eC (.int 1000))) (aNil)))))
noncomputable def dgBody (g_law_cell : FD) : SD := (sSeq (sSet 5 (eCall 2 g_law_cell (aCons (eVar 0) (aCons (eVar 4) (aNil))))) (sSeq (sIf (asB (eBin gLt (eVar 5) (eC (.int 0)))) (sSet 5 (eBin gSub (eC (.int 1)) (eBin gMul (eC (.int 2)) (eVar 5)))) (sNil)) (sIf (asB (eBin gGe (eVar 5) (eBin gPow (eC (.int 10)) (eC (.int 18))))) (sFor (iRgA (aCons (eC (.int 60)) (aNil))) (gNm 6) d60) (sSeq (sSet 7 (eBin gMod (eB gToInt (aCons (eBin gAdd (eBin gAdd (eBin gMul (eVar 5) (eC (.int 48271))) (eBin gMul (eVar 4) (eC (.int 69621)))) (eC (.int 11))) (aNil))) (eC (.int 2147483647)))) (sFor (iRgA (aCons (eC (.int 12)) (aNil))) (gNm 6) d12)))))
theorem B_digits_eq (g_law_cell : FD) : B_law_digits g_law_cell = sSeq (sSet 3 (eLstO (aNil))) (sSeq (sFor (iRgB (aCons (eVar 1) (aCons (eVar 2) (aNil)))) (gNm 4) (dgBody g_law_cell)) (sRetR (eVar 3))) := rfl
abbrev dgL (dg : List Int) : O := .lst (dg.map fun d => D.p (.int d))
section
variable {S : Sto} {dg : List Int}
theorem dgL_at : (S ++ [dgL dg])[S.length]? = some (dgL dg) := by simp
theorem dgL_set {b : O} : (S ++ [dgL dg]).set S.length b = S ++ [b] := by simp
theorem dgL_app {d : Int} : O.lst ((dg.map fun d => D.p (.int d)) ++ [D.p (.int d)]) = dgL (dg ++ [d]) := by simp [dgL]
theorem d60_ok {v0 v1 v2 v4 v6 v7 : Option D} {c : Int} (hl : dg.length < 1000000) : ∃ (dg' : List Int) (c' : Int), dg'.length ≤ dg.length + 1 ∧
    d60 [v0, v1, v2, some (.ob S.length), v4, some (.int c), v6, v7] (S ++ [dgL dg]) = .nx [v0, v1, v2, some (.ob S.length), v4, some (.int c'), v6, v7] (S ++ [dgL dg']) := by
  by_cases h : 0 < c
  · refine ⟨dg ++ [c % 1000], c / 1000, by simp, ?_⟩
    have h2 : dg.length < 16777216 := by omega
    simp [d60, h, dgL_at, h2]
  · refine ⟨dg, c, by omega, ?_⟩
    simp [d60, h]
theorem d12_ok {v0 v1 v2 v4 v5 : Option D} {t s : Int} (hl : dg.length < 1000000) : ∃ (dg' : List Int) (s' : Int), dg'.length ≤ dg.length + 1 ∧
    d12 [v0, v1, v2, some (.ob S.length), v4, v5, some (.int t), some (.int s)] (S ++ [dgL dg]) = .nx [v0, v1, v2, some (.ob S.length), v4, v5, some (.int t), some (.int s')] (S ++ [dgL dg']) := by
  have h2 : dg.length < 16777216 := by omega
  exact ⟨dg ++ [(s * 16807 + 7 * t + 1) % 2147483647 / 997 % 1000], (s * 16807 + 7 * t + 1) % 2147483647, by simp, by simp [d12, dgL_at, h2]⟩
theorem d60_all {v0 v1 v2 v4 v6 v7 : Option D} {c : Int} {n : Nat} (hl : dg.length + n < 1000000) : ∃ (dg' : List Int) (v5' v6' : Option D), dg'.length ≤ dg.length + n ∧
    forL (gNm 6) d60 (fun _ => True) (rngL 0 n) [v0, v1, v2, some (.ob S.length), v4, some (.int c), v6, v7] (S ++ [dgL dg]) = .nx [v0, v1, v2, some (.ob S.length), v4, v5', v6', v7] (S ++ [dgL dg']) := by
  obtain ⟨ρ', S', e, dg', c', v6', hl', rfl, rfl⟩ := forL_inv (g := gNm 6) (chk := fun _ => True) (body := d60)
    (fun i ρ S' => ∃ (dg' : List Int) (c' : Int) (v6' : Option D), dg'.length ≤ dg.length + i ∧ S' = S ++ [dgL dg'] ∧ ρ = [v0, v1, v2, some (.ob S.length), v4, some (.int c'), v6', v7]) (rngL 0 n) 0 [v0, v1, v2, some (.ob S.length), v4, some (.int c), v6, v7] (S ++ [dgL dg])
    (fun i d ρ S' hd hI => by
      obtain ⟨hi, rfl⟩ := rngL_get hd
      obtain ⟨dg', c', v6', hl', rfl, rfl⟩ := hI
      obtain ⟨dg2, c2, hl2, e2⟩ := d60_ok (S := S) (dg := dg') (v0 := v0) (v1 := v1) (v2 := v2) (v4 := v4) (v6 := some (.int (0 + i))) (v7 := v7) (c := c') (by omega)
      exact ⟨_, _, rfl, _, _, .inl e2, trivial, dg2, c2, _, by omega, rfl, rfl⟩) ⟨dg, c, v6, by omega, rfl, rfl⟩
  simp only [rngL_length, Nat.zero_add] at hl'
  exact ⟨dg', _, _, hl', e⟩
theorem d12_all {v0 v1 v2 v4 v5 v6 : Option D} {s : Int} {n : Nat} (hl : dg.length + n < 1000000) : ∃ (dg' : List Int) (v6' v7' : Option D), dg'.length ≤ dg.length + n ∧
    forL (gNm 6) d12 (fun _ => True) (rngL 0 n) [v0, v1, v2, some (.ob S.length), v4, v5, v6, some (.int s)] (S ++ [dgL dg]) = .nx [v0, v1, v2, some (.ob S.length), v4, v5, v6', v7'] (S ++ [dgL dg']) := by
  obtain ⟨ρ', S', e, dg', s', v6', hl', rfl, rfl⟩ := forL_inv (g := gNm 6) (chk := fun _ => True) (body := d12)
    (fun i ρ S' => ∃ (dg' : List Int) (s' : Int) (v6' : Option D), dg'.length ≤ dg.length + i ∧ S' = S ++ [dgL dg'] ∧ ρ = [v0, v1, v2, some (.ob S.length), v4, v5, v6', some (.int s')]) (rngL 0 n) 0 [v0, v1, v2, some (.ob S.length), v4, v5, v6, some (.int s)] (S ++ [dgL dg])
    (fun i d ρ S' hd hI => by
      obtain ⟨hi, rfl⟩ := rngL_get hd
      obtain ⟨dg', s', v6', hl', rfl, rfl⟩ := hI
      obtain ⟨dg2, s2, hl2, e2⟩ := d12_ok (S := S) (dg := dg') (v0 := v0) (v1 := v1) (v2 := v2) (v4 := v4) (v5 := v5) (t := 0 + i) (s := s') (by omega)
      exact ⟨_, _, rfl, _, _, .inl e2, trivial, dg2, s2, _, by omega, rfl, rfl⟩) ⟨dg, s, v6, by omega, rfl, rfl⟩
  simp only [rngL_length, Nat.zero_add] at hl'
  exact ⟨dg', _, _, hl', e⟩
theorem big62_60 : big62 60 = true := big62_of (by decide) (by decide)
theorem big62_12 : big62 12 = true := big62_of (by decide) (by decide)
theorem dgBody_ok {ns : List Int} {v1 v2 v5 v6 v7 : Option D} {k : Nat} (hc : ClS 0 S) (hl : dg.length + 60 < 1000000) : ∃ (dg' : List Int) (w5 w6 w7 : Option D), dg'.length ≤ dg.length + 60 ∧
    dgBody G_law_cell [some (.scr ns), v1, v2, some (.ob S.length), some (.int k), v5, v6, v7] (S ++ [dgL dg]) = .nx [some (.scr ns), v1, v2, some (.ob S.length), some (.int k), w5, w6, w7] (S ++ [dgL dg']) := by
  obtain ⟨c, ec⟩ := cell_ok (ns := ns) (k := k) (S := S ++ [dgL dg]) (clS_app hc (clS_one (by unfold dgL; rw [show (dg.map fun d => D.p (.int d)) = (dg.map PyData.int).map .p by simp]; exact clO_p)))
  have step : ∀ c' : Int, ∃ (dg' : List Int) (w5 w6 w7 : Option D), dg'.length ≤ dg.length + 60 ∧
      sIf (asB (eBin gGe (eVar 5) (eBin gPow (eC (.int 10)) (eC (.int 18))))) (sFor (iRgA (aCons (eC (.int 60)) (aNil))) (gNm 6) d60) (sSeq (sSet 7 (eBin gMod (eB gToInt (aCons (eBin gAdd (eBin gAdd (eBin gMul (eVar 5) (eC (.int 48271))) (eBin gMul (eVar 4) (eC (.int 69621)))) (eC (.int 11))) (aNil))) (eC (.int 2147483647)))) (sFor (iRgA (aCons (eC (.int 12)) (aNil))) (gNm 6) d12))
        [some (.scr ns), v1, v2, some (.ob S.length), some (.int k), some (.int c'), v6, v7] (S ++ [dgL dg]) = .nx [some (.scr ns), v1, v2, some (.ob S.length), some (.int k), w5, w6, w7] (S ++ [dgL dg']) := by
    intro c'
    by_cases h : (1000000000000000000 : Int) ≤ c'
    · obtain ⟨dg', w5, w6, l, e⟩ := d60_all (S := S) (dg := dg) (v0 := some (.scr ns)) (v1 := v1) (v2 := v2) (v4 := some (.int k)) (v6 := v6) (v7 := v7) (c := c') (n := 60) (by omega)
      exact ⟨dg', w5, w6, v7, l, by simp [h, big62_60, e]⟩
    · obtain ⟨dg', w6, w7, l, e⟩ := d12_all (S := S) (dg := dg) (v0 := some (.scr ns)) (v1 := v1) (v2 := v2) (v4 := some (.int k)) (v5 := some (.int c')) (v6 := v6) (s := (c' * 48271 + k * 69621 + 11) % 2147483647) (n := 12) (by omega)
      exact ⟨dg', some (.int c'), w6, w7, by omega, by simp [h, big62_12, e]⟩
  by_cases h : c < 0
  · obtain ⟨dg', w5, w6, w7, l, e⟩ := step (1 - 2 * c)
    refine ⟨dg', w5, w6, w7, l, ?_⟩
    rw [← e]
    unfold dgBody
    simp [ec, h]
  · obtain ⟨dg', w5, w6, w7, l, e⟩ := step c
    refine ⟨dg', w5, w6, w7, l, ?_⟩
    rw [← e]
    unfold dgBody
    simp [ec, h]
end
end My

namespace My
open PySem PySem.Spec PyProof.Rows L2 DL
section
variable {S : Sto} {dg : List Int}
theorem pAll_ints : pAll (dg.map fun d => D.p (.int d)) = some (dg.map .int) := by
  rw [show (dg.map fun d => D.p (.int d)) = (dg.map PyData.int).map .p by simp]
  exact pAll_map _
theorem restD_dgL : restD (.ob S.length) (S ++ [dgL dg]) = some (.list (dg.map .int), S ++ [.fz (dg.map .int)]) := by
  show (match (S ++ [dgL dg])[S.length]? with
    | some (.lst l) => (pAll l).map fun l' => (PyData.list l', (S ++ [dgL dg]).set S.length (.fz l'))
    | some (.fz l) => some (.list l, S ++ [dgL dg])
    | _ => none) = _
  rw [dgL_at]
  show (pAll (dg.map fun d => D.p (.int d))).map _ = _
  rw [pAll_ints, Option.map_some, dgL_set]
theorem digits_ok {ns : List Int} {lo hi : Nat} (hc : ClS 0 S) (hh : hi ≤ 1000) (hlo : lo ≤ hi) : ∃ dg : List Int, G_law_digits [.scr ns, .int lo, .int hi] S = .ok (.lst (dg.map .int)) S := by
  obtain ⟨ρ', S', e, dg, v5, v6, v7, v4, hl, rfl, rfl⟩ := forL_inv (g := gNm 4) (chk := fun _ => True) (body := dgBody G_law_cell)
    (fun i ρ S' => ∃ (dg : List Int) (v5 v6 v7 v4 : Option D), dg.length ≤ 60 * i ∧ S' = S ++ [dgL dg] ∧ ρ = [some (.scr ns), some (.int lo), some (.int hi), some (.ob S.length), v4, v5, v6, v7]) (rngL lo (hi - lo)) 0 [some (.scr ns), some (.int lo), some (.int hi), some (.ob S.length), none, none, none, none] (S ++ [dgL []])
    (fun i d ρ S' hd hI => by
      obtain ⟨hi', rfl⟩ := rngL_get hd
      obtain ⟨dg, v5, v6, v7, v4, hl, rfl, rfl⟩ := hI
      obtain ⟨dg2, w5, w6, w7, hl2, e2⟩ := dgBody_ok (S := S) (dg := dg) (ns := ns) (v1 := some (.int lo)) (v2 := some (.int hi)) (v5 := v5) (v6 := v6) (v7 := v7) (k := lo + i) hc (by omega)
      rw [Int.natCast_add] at e2
      exact ⟨_, _, gNm_ap, _, _, .inl e2, trivial, dg2, w5, w6, w7, _, by omega, rfl, rfl⟩) ⟨[], none, none, none, none, by simp, rfl, rfl⟩
  have hb : big62 (lo : Int) = true ∧ big62 (hi : Int) = true := ⟨big62_nat (by omega), big62_nat (by omega)⟩
  have hn : ((hi : Int) - lo).toNat = hi - lo := by omega
  refine ⟨dg, gB_rt (T := [.fz (dg.map .int)]) ?_ rfl (clS_mono (Nat.zero_le _) hc)⟩
  rw [B_digits_eq]
  have e0 : start0 NN_law_digits [.scr ns, .int lo, .int hi] = [some (.scr ns), some (.int lo), some (.int hi), none, none, none, none, none] := rfl
  rw [e0]
  rw [sSeq_ap, sSet_ap, eLstO_ap, aNil_ap]
  simp only [Rs.bind_ok, liftS_ok, seqO_nx, List.length_nil, Nat.zero_le, if_true, List.set_cons_succ, List.set_cons_zero]
  rw [sSeq_ap, sFor_ap, iRgB_ap]
  simp only [aCons_ap, aNil_ap, eVar_ap, List.getElem?_cons_succ, List.getElem?_cons_zero, Option.join_some, oRs_some, Rs.bind_ok, liftS_ok, hb, hn, and_self, if_true]
  rw [show O.lst [] = dgL [] from rfl, e]
  simp only [seqO_nx, sRetR_ap, eVar_ap, List.getElem?_cons_succ, List.getElem?_cons_zero, Option.join_some, oRs_some, liftS_ok, restD_dgL, rtO_some]
end
end My

namespace My
open PySem PySem.Spec PyProof.Rows L2 DL
/-! ### drawn numbers, texts -/
def IsBox (b : O) : Prop := ∃ dg at_, b = boxO dg at_
theorem IsBox.cl {b : O} {k : Nat} (h : IsBox b) : ClO k b := by
  obtain ⟨dg, at_, rfl⟩ := h
  exact clO_box
section
variable {S : Sto} {n : Nat} {b : O} {Q : D → Sto → Prop} {E : Xc → Sto → Prop}
theorem draw_wp {many : Int} (hs : S[n]? = some b) (hb : IsBox b) (hm : 0 < many) (hc : ClS 0 S) (h : ∀ v b', 0 ≤ v → v < many → IsBox b' → Q (.int v) (S.set n b')) : WE (G_law_draw [.ob n, .int many] S) Q E := by
  obtain ⟨dg, at_, rfl⟩ := hb
  obtain ⟨k1, k2⟩ := drawV_lt (dg := dg) (at_ := at_) hm
  exact WE_of (draw_ok hs hm hc) (h _ _ k1 k2 ⟨_, _, rfl⟩)
theorem digits_wp {ns : List Int} {lo hi : Nat} (hc : ClS 0 S) (hh : hi ≤ 1000) (hlo : lo ≤ hi) (h : ∀ dg : List Int, Q (.lst (dg.map .int)) S) : WE (G_law_digits [.scr ns, .int lo, .int hi] S) Q E := by
  obtain ⟨dg, e⟩ := digits_ok (ns := ns) hc hh hlo
  exact WE_of e (h dg)
theorem set_get (hl : n < S.length) {o : O} : (S.set n o)[n]? = some o := List.getElem?_set_self hl
theorem toStr_len {k : Nat} (hk : k < 1000) : (Str.ofString (toString (k : Int))).length ≤ 4 := by
  have e := int_text_length_le10 (a := (k : Int)) (k := 3) (by decide) (by simpa using hk)
  rw [PySem.ofString_length]; exact e
theorem toStr_log {k : Nat} (hk : k < 1000) : ((k : Int).natAbs).log2 < 1920 := by
  have := Nat.log2_le_self k
  simp only [Int.natAbs_natCast]
  omega
/-! ### texts -/
abbrev sx (l : List Nat) : Str := SX.S l
@[simp] theorem sx_len (l : List Nat) : (sx l).length = l.length := by show l.toArray.size = _; simp
@[simp] theorem sx_tl (l : List Nat) : (sx l).cps.toList = l := by simp [SX.S]
theorem joinL_nil : ∀ l : List Nat, TL.joinL [] (l.map fun c => [c]) = l
  | [] => rfl
  | [c] => rfl
  | c :: c2 :: r => by
    show [c] ++ ([] ++ TL.joinL [] ((c2 :: r).map fun c => [c])) = _
    rw [joinL_nil (c2 :: r)]
    rfl
theorem join_chars (l : List Nat) : Txt.join (sx []) (l.map fun c => sx [c]) = sx l := by
  have := SX.join_S [] (l.map fun c => [c])
  rw [List.map_map, joinL_nil] at this
  exact this
theorem strsP_map (l : List Str) : strsP (l.map PyData.str) = some l := by
  induction l with
  | nil => rfl
  | cons x l ih => simp [strsP, ih]
theorem lens_one (l : List Nat) : ((l.map fun c => sx [c]).map (·.length)).sum = l.length := by
  induction l with
  | nil => rfl
  | cons c l ih =>
    rw [List.map_cons, List.map_cons, List.sum_cons, ih, List.length_cons]
    simp
    omega
theorem dotS : (Str.ofString ".#").cps.toList = [46, 35] := by decide +kernel
theorem dotL : (Str.ofString ".#").length = 2 := by decide +kernel
theorem emptyS : Str.ofString "" = sx [] := by decide +kernel
def pixL (cs : List Nat) : Prop := ∀ c ∈ cs, c = 46 ∨ c = 35
abbrev rD (rows : List (List Nat)) : List PyData := rows.map fun r => .str (sx r)
abbrev imgD (rows : List (List Nat)) : PyData := .tuple (rD rows)
def imgOk (wide high : Nat) (rows : List (List Nat)) : Prop := rows.length = high ∧ ∀ r ∈ rows, r.length = wide ∧ pixL r
theorem seqP_lst {S : Sto} {l : List PyData} : seqP S (.p (.list l)) = some l := by
  show vList S (.p (.list l)) = some l
  unfold vList
  simp [lItems, pAll_map]
/-- the join of pixels -/
theorem join_wp {cs : List Nat} {f : ED} {ρ : DL.Env} {S1 S2 : Sto} (e : f ρ S1 = .ok (.lst (cs.map fun c => PyData.str (sx [c]))) S2) (hl : cs.length < 1000000) (q : Q (.str (sx cs)) S2) : WE (eJoin (eC (.str "")) f ρ S1) Q E := by
  refine WE_of (a := .str (sx cs)) (S := S2) ?_ q
  unfold eJoin
  rw [eC_ap, Rs.bind_ok]
  simp only [e, Rs.bind_ok]
  have sp : seqP S2 (.lst (cs.map fun c => PyData.str (sx [c]))) = some ((cs.map fun c => sx [c]).map PyData.str) := by
    rw [seqP_lst, List.map_map]
    rfl
  rw [sp]
  simp only [strsP_map]
  rw [emptyS, join_chars, lens_one, if_pos]
  simp
  omega
theorem join_lc {f : ED} {ρ : DL.Env} {S1 : Sto} (h : WE (f ρ S1) (fun d S2 => ∃ cs : List Nat, cs.length < 1000000 ∧ d = .lst (cs.map fun c => PyData.str (sx [c])) ∧ Q (.str (sx cs)) S2) (fun _ _ => False)) : WE (eJoin (eC (.str "")) f ρ S1) Q E := by
  obtain ⟨d, S2, e, cs, hl, rfl, q⟩ := WE_get h
  exact join_wp e hl q
end
end My

namespace My
open PySem PySem.Spec PyProof.Rows L2 DL
/-! ### grammars as the laws draw them -/
inductive Ex where
  | pl (p lo hi c : Nat)
  | sq (a b : Ex)
  | ch (a b : Ex)
  | an (a : Ex)
  | so (a : Ex)
  | mb (a : Ex)
def Ex.py : Ex → PyData
  | .pl p lo hi c => .tuple [.str "place", .int p, .int lo, .int hi, .int c]
  | .sq a b => .tuple [.str "sequence", .tuple [a.py, b.py]]
  | .ch a b => .tuple [.str "choice", .tuple [a.py, b.py]]
  | .an a => .tuple [.str "any", a.py]
  | .so a => .tuple [.str "some", a.py]
  | .mb a => .tuple [.str "maybe", a.py]
/-- places of n parts at most, so deep at most -/
def Ex.ok (n : Nat) : Nat → Ex → Prop
  | _, .pl p lo hi c => p < n ∧ 1 ≤ lo ∧ lo ≤ hi ∧ hi ≤ 16 ∧ c < 3
  | d + 1, .sq a b => a.ok n d ∧ b.ok n d
  | d + 1, .ch a b => a.ok n d ∧ b.ok n d
  | d + 1, .an a => a.ok n d
  | d + 1, .so a => a.ok n d
  | d + 1, .mb a => a.ok n d
  | _, _ => False
inductive Pt where
  | plain (nm lab : Str) (c : Nat) (k : Bool)
  | shape (nm lab : Str) (c w h : Nat) (rows : List (List Nat))
  | strip (ac : Bool) (nm j : Str) (e : Ex)
def dirS (ac : Bool) : Str := if ac = true then "across" else "down"
def Pt.py : Pt → PyData
  | .plain nm lab c k => .tuple [.str "plain", .str nm, .str lab, .int c, .bool k]
  | .shape nm lab c w h rows => .tuple [.str "shape", .str nm, .str lab, .int c, imgD rows]
  | .strip ac nm j e => .tuple [.str (dirS ac), .str nm, .str j, e.py]
def Pt.leaf (wide : Nat) : Pt → Prop
  | .plain _ _ c _ => c < 4
  | .shape _ _ c w h rows => c < 4 ∧ imgOk w h rows ∧ 1 ≤ w ∧ w ≤ wide ∧ 1 ≤ h ∧ h ≤ wide
  | .strip _ _ _ _ => False
abbrev rL (rows : List (List Nat)) : O := .lst ((rD rows).map .p)
section
variable {S : Sto} {n : Nat} {b : O} {Q : D → Sto → Prop} {E : Xc → Sto → Prop}
theorem get_set (hl : n < S.length) {o : O} {T : Sto} : (S.set n o ++ T)[n]? = some o := by
  rw [List.getElem?_append_left (by simpa using hl), List.getElem?_set_self hl]
theorem set_app (hl : n < S.length) {o o' : O} {T : Sto} : (S.set n o ++ T).set n o' = S.set n o' ++ T := by
  rw [List.set_append_left _ _ (by simpa using hl), List.set_set]
theorem self_set (hs : S[n]? = some b) : S = S.set n b := by
  have hl : n < S.length := (List.getElem?_eq_some_iff.mp hs).1
  apply List.ext_getElem?
  intro i
  by_cases hi : n = i
  · subst hi
    rw [List.getElem?_set_self hl, hs]
  · rw [List.getElem?_set_ne hi]
/-- the row of one line of pixels -/
theorem pixrow_wp {w i j : Nat} {ρ : DL.Env} {T : Sto} (hl : n < S.length) (hb : IsBox b) (hc : ClS 0 S) (hcT : ClS 0 T) (hw : w < 1000) (h0 : (wipeE ρ [j])[0]? = some (some (.ob n))) (hi : ρ[i]? = some (some (.int w))) (hj : 0 < j)
    (q : ∀ b' cs, IsBox b' → cs.length = w → pixL cs → Q (.str (sx cs)) (S.set n b' ++ T)) :
    WE (eJoin (eC (.str "")) (eLc (iRgA (aCons (eVar i) aNil)) (gNm j) bYes (eBin gIx (eC (.str ".#")) (eCall 2 G_law_draw (aCons (eVar 0) (aCons (eC (.int 2)) aNil)))) [j]) ρ (S.set n b ++ T)) Q E := by
  refine join_lc ?_
  have bw : big62 (w : Int) = true := big62_nat (by omega)
  simp -implicitDefEqProofs only [DL.wpW, reduceIte, Nat.reduceAdd, Nat.reduceLeDiff, DL.sFor_ap, hi, bw, Int.toNat_natCast]
  refine WE_lc (fun k acc S' => ∃ b' cs, IsBox b' ∧ cs.length = k ∧ pixL cs ∧ acc = cs.map (fun c => PyData.str (sx [c])) ∧ S' = S.set n b' ++ T) _ 0 _ _ ⟨b, [], hb, rfl, (fun _ z => by cases z), rfl, rfl⟩ ?_ ?_
  · rintro k d acc S' hd ⟨b2, cs, hb2, hlen, hp, rfl, rfl⟩
    obtain ⟨hk, rfl⟩ := rngL_get hd
    have h00 : ((wipeE ρ [j]).set j (some (.int (0 + (k : Int)))))[0]? = some (some (.ob n)) := by
      rw [List.getElem?_set_ne (by omega)]; exact h0
    simp -implicitDefEqProofs only [DL.wpW, reduceIte, Nat.reduceAdd, Nat.reduceLeDiff, DL.sFor_ap, h00]
    refine draw_wp (get_set hl) hb2 (by decide) (clS_app (clS_set hc hb2.cl) hcT) fun v b3 hv0 hv1 hb3 => ?_
    rw [set_app hl]
    have h2 : v = 0 ∨ v = 1 := by omega
    have hL : cs.length < 16777216 := by omega
    rcases h2 with rfl | rfl
    · simp -implicitDefEqProofs only [DL.wpW, reduceIte, Nat.reduceAdd, Nat.reduceLeDiff, DL.sFor_ap, gIx_str, dotL, dotS, List.length_map, hL]
      refine ⟨_, _, rfl, trivial, trivial, b3, cs ++ [46], hb3, by simp [hlen], fun x hx => ?_, by simp, rfl⟩
      rcases List.mem_append.mp hx with z | z
      · exact hp x z
      · rw [List.mem_singleton.mp z]; exact .inl rfl
    · simp -implicitDefEqProofs only [DL.wpW, reduceIte, Nat.reduceAdd, Nat.reduceLeDiff, DL.sFor_ap, gIx_str, dotL, dotS, List.length_map, hL]
      refine ⟨_, _, rfl, trivial, trivial, b3, cs ++ [35], hb3, by simp [hlen], fun x hx => ?_, by simp, rfl⟩
      rcases List.mem_append.mp hx with z | z
      · exact hp x z
      · rw [List.mem_singleton.mp z]; exact .inr rfl
  · rintro acc S' ⟨b2, cs, hb2, hlen, hp, rfl, rfl⟩
    rw [rngL_length, Nat.zero_add] at hlen
    exact ⟨cs, by omega, rfl, q b2 cs hb2 hlen hp⟩
theorem leaf_wp {k wide : Nat} (hs : S[n]? = some b) (hb : IsBox b) (hc : ClS 0 S) (hk : k < 1000) (hw : 1 ≤ wide) (hw2 : wide ≤ 16)
    (q : ∀ b' pt, IsBox b' → Pt.leaf wide pt → Q (.p pt.py) (S.set n b')) : WE (G_law_leaf [.ob n, .int k, .int wide] S) Q E := by
  have hl : n < S.length := (List.getElem?_eq_some_iff.mp hs).1
  have hlog := toStr_log hk
  have hlen := toStr_len hk
  have p1 : (Str.ofString "p").length = 1 := by decide +kernel
  refine WE_def (fun d S' => ∃ b' pt T, IsBox b' ∧ Pt.leaf wide pt ∧ d = .p pt.py ∧ S' = S.set n b' ++ T) ?_ (fun d S' ⟨b', pt, T, hb', hp, e1, e2⟩ => ⟨_, S.set n b', T, e1, e2, by simp, clS_set hc hb'.cl, q b' pt hb' hp⟩)
  rw [show start0 NN_law_leaf [.ob n, .int k, .int wide] = [some (.ob n), some (.int k), some (.int wide), none, none, none, none, none, none, none] from rfl]
  unfold B_law_leaf
  refine WS_cut (fun ρ S' => ∃ nm : Str, S' = S ∧ ρ = [some (.ob n), some (.int k), some (.int wide), some (.str nm), none, none, none, none, none, none]) ?_ ?_
  · simp -implicitDefEqProofs only [DL.wpW, reduceIte, Nat.reduceAdd, Nat.reduceLeDiff, DL.sFor_ap, hlog]
    rw [if_pos (by rw [p1]; omega)]
    exact ⟨_, by trivial, by trivial⟩
  rintro ρ S' ⟨nm, rfl, rfl⟩
  refine WS_cut (fun ρ S1 => ∃ b' lab, IsBox b' ∧ S1 = S'.set n b' ∧ ρ = [some (.ob n), some (.int k), some (.int wide), some (.str nm), some (.str lab), none, none, none, none, none]) ?_ ?_
  · simp -implicitDefEqProofs only [DL.wpW, reduceIte, Nat.reduceAdd, Nat.reduceLeDiff, DL.sFor_ap]
    refine draw_wp hs hb (by decide) hc fun v b1 h0 h1 hb1 => ?_
    have h2 : v = 0 ∨ v = 1 ∨ v = 2 := by omega
    rcases h2 with rfl | rfl | rfl
    · simp -implicitDefEqProofs only [DL.wpW, reduceIte, Nat.reduceAdd, Nat.reduceLeDiff, DL.sFor_ap]
      exact ⟨b1, _, hb1, by trivial, by trivial⟩
    · simp -implicitDefEqProofs only [DL.wpW, reduceIte, Nat.reduceAdd, Nat.reduceLeDiff, DL.sFor_ap]
      exact ⟨b1, _, hb1, by trivial, by trivial⟩
    · simp -implicitDefEqProofs only [DL.wpW, reduceIte, Nat.reduceAdd, Nat.reduceLeDiff, DL.sFor_ap]
      exact ⟨b1, _, hb1, by trivial, by trivial⟩
  rintro ρ S1 ⟨b1, lab, hb1, rfl, rfl⟩
  refine WS_cut (fun ρ S1 => ∃ b' c, IsBox b' ∧ c < 4 ∧ S1 = S'.set n b' ∧ ρ = [some (.ob n), some (.int k), some (.int wide), some (.str nm), some (.str lab), some (.int (c : Nat)), none, none, none, none]) ?_ ?_
  · simp -implicitDefEqProofs only [DL.wpW, reduceIte, Nat.reduceAdd, Nat.reduceLeDiff, DL.sFor_ap]
    refine draw_wp (set_get hl) hb1 (by decide) (clS_set hc hb1.cl) fun v b2 h0 h1 hb2 => ?_
    obtain ⟨c, rfl⟩ := Int.eq_ofNat_of_zero_le h0
    simp -implicitDefEqProofs only [DL.wpW, reduceIte, Nat.reduceAdd, Nat.reduceLeDiff, DL.sFor_ap, List.set_set]
    exact ⟨b2, c, hb2, by omega, by trivial, by trivial⟩
  rintro ρ S1 ⟨b2, c, hb2, hcc, rfl, rfl⟩
  refine WS_cut (fun ρ S1 => ∃ b', IsBox b' ∧ S1 = S'.set n b' ∧ ρ = [some (.ob n), some (.int k), some (.int wide), some (.str nm), some (.str lab), some (.int (c : Nat)), none, none, none, none]) ?_ ?_
  · simp -implicitDefEqProofs only [DL.wpW, reduceIte, Nat.reduceAdd, Nat.reduceLeDiff, DL.sFor_ap]
    refine draw_wp (set_get hl) hb2 (by decide) (clS_set hc hb2.cl) fun v b3 h0 h1 hb3 => ?_
    have h2 : v = 0 ∨ v = 1 := by omega
    rcases h2 with rfl | rfl
    · simp -implicitDefEqProofs only [DL.wpW, reduceIte, Nat.reduceAdd, Nat.reduceLeDiff, DL.sFor_ap, List.set_set, beq_self_eq_true]
      refine draw_wp (set_get hl) hb3 (by decide) (clS_set hc hb3.cl) fun v b4 h0 h1 hb4 => ?_
      simp -implicitDefEqProofs only [DL.wpW, reduceIte, Nat.reduceAdd, Nat.reduceLeDiff, DL.sFor_ap, List.set_set]
      exact ⟨b4, .plain nm lab c (v == 1), [], hb4, hcc, rfl, by simp⟩
    · have e10 : ((1 : Int) == 0) = false := rfl
      simp -implicitDefEqProofs only [DL.wpW, reduceIte, Nat.reduceAdd, Nat.reduceLeDiff, DL.sFor_ap, List.set_set, e10]
      exact ⟨b3, hb3, rfl, trivial⟩
  rintro ρ S1 ⟨b3, hb3, rfl, rfl⟩
  refine WS_cut (fun ρ S1 => ∃ b' w, IsBox b' ∧ 1 ≤ w ∧ w ≤ wide ∧ S1 = S'.set n b' ∧ ρ = [some (.ob n), some (.int k), some (.int wide), some (.str nm), some (.str lab), some (.int (c : Nat)), some (.int (w : Nat)), none, none, none]) ?_ ?_
  · simp -implicitDefEqProofs only [DL.wpW, reduceIte, Nat.reduceAdd, Nat.reduceLeDiff, DL.sFor_ap]
    refine draw_wp (set_get hl) hb3 (by omega) (clS_set hc hb3.cl) fun v b4 h0 h1 hb4 => ?_
    obtain ⟨w, rfl⟩ := Int.eq_ofNat_of_zero_le h0
    simp -implicitDefEqProofs only [DL.wpW, reduceIte, Nat.reduceAdd, Nat.reduceLeDiff, DL.sFor_ap, List.set_set]
    exact ⟨b4, 1 + w, hb4, by omega, by omega, rfl, by simp⟩
  rintro ρ S1 ⟨b4, w, hb4, hw1, hw3, rfl, rfl⟩
  refine WS_cut (fun ρ S1 => S1 = S'.set n b4 ++ [rL []] ∧ ρ = [some (.ob n), some (.int k), some (.int wide), some (.str nm), some (.str lab), some (.int (c : Nat)), some (.int (w : Nat)), some (.ob S'.length), none, none]) ?_ ?_
  · simp -implicitDefEqProofs only [DL.wpW, reduceIte, Nat.reduceAdd, Nat.reduceLeDiff, DL.sFor_ap]
    exact ⟨rfl, by simp⟩
  rintro ρ S1 ⟨rfl, rfl⟩
  refine WS_cut (fun ρ S1 => ∃ b' h rows v8, IsBox b' ∧ 1 ≤ h ∧ h ≤ wide ∧ imgOk w h rows ∧ S1 = S'.set n b' ++ [rL rows] ∧ ρ = [some (.ob n), some (.int k), some (.int wide), some (.str nm), some (.str lab), some (.int (c : Nat)), some (.int (w : Nat)), some (.ob S'.length), v8, none]) ?_ ?_
  · simp -implicitDefEqProofs only [DL.wpW, reduceIte, Nat.reduceAdd, Nat.reduceLeDiff, DL.sFor_ap]
    refine draw_wp (get_set hl) hb4 (by omega) (clS_app (clS_set hc hb4.cl) (clS_one clO_p)) fun v b5 h0 h1 hb5 => ?_
    obtain ⟨h, rfl⟩ := Int.eq_ofNat_of_zero_le h0
    have bh : big62 (1 + (h : Int)) = true := big62_of (by omega) (by omega)
    simp -implicitDefEqProofs only [DL.wpW, reduceIte, Nat.reduceAdd, Nat.reduceLeDiff, DL.sFor_ap, set_app hl, bh]
    rw [show (1 + (h : Int)).toNat = 1 + h by omega]
    refine WS_for (fun i ρ S1 => ∃ b' rows v8, IsBox b' ∧ imgOk w i rows ∧ S1 = S'.set n b' ++ [rL rows] ∧ ρ = [some (.ob n), some (.int k), some (.int wide), some (.str nm), some (.str lab), some (.int (c : Nat)), some (.int (w : Nat)), some (.ob S'.length), v8, none]) _ 0 _ _
      ⟨b5, [], none, hb5, ⟨rfl, fun _ z => by cases z⟩, rfl, rfl⟩ ?_ ?_
    · rintro i d ρ S2 hd ⟨b6, rows, v8, hb6, hr, rfl, rfl⟩
      obtain ⟨hi, rfl⟩ := rngL_get hd
      have at1 : (S'.set n b6 ++ [rL rows])[S'.length]? = some (rL rows) := by rw [List.getElem?_append_right (by simp)]; simp
      simp -implicitDefEqProofs only [DL.wpW, reduceIte, Nat.reduceAdd, Nat.reduceLeDiff, DL.sFor_ap, at1]
      refine pixrow_wp (w := w) hl hb6 hc (clS_one clO_p) (by omega) rfl rfl (by decide) fun b7 cs hb7 hcl hpx => ?_
      have at2 : (S'.set n b7 ++ [rL rows])[S'.length]? = some (rL rows) := by rw [List.getElem?_append_right (by simp)]; simp
      have hL : rows.length < 16777216 := by rw [hr.1]; omega
      simp -implicitDefEqProofs only [DL.wpW, reduceIte, Nat.reduceAdd, Nat.reduceLeDiff, DL.sFor_ap, at2, List.length_map, hL]
      refine ⟨trivial, b7, rows ++ [cs], some (.int (0 + i)), hb7, ⟨by simp [hr.1], fun r hr2 => ?_⟩, ?_, rfl⟩
      · rcases List.mem_append.mp hr2 with z | z
        · exact hr.2 r z
        · rw [List.mem_singleton.mp z]; exact ⟨hcl, hpx⟩
      · rw [List.set_append_right _ _ (by simp)]
        simp
    · rintro ρ S2 ⟨b6, rows, v8, hb6, hr, rfl, rfl⟩
      rw [rngL_length] at hr
      exact ⟨b6, 1 + h, rows, v8, hb6, by omega, by omega, by simpa using hr, rfl, rfl⟩
  rintro ρ S1 ⟨b5, h, rows, v8, hb5, hh1, hh2, hr, rfl, rfl⟩
  have vl : vList (S'.set n b5 ++ [rL rows]) (.ob S'.length) = some (rD rows) := by
    have at2 : (S'.set n b5 ++ [rL rows])[S'.length]? = some (rL rows) := by rw [List.getElem?_append_right (by simp)]; simp
    show (match (S'.set n b5 ++ [rL rows])[S'.length]? with | some (.lst l) => pAll l | some (.fz l) => some l | _ => none) = _
    rw [at2]
    exact pAll_map _
  have gt : gToTup [.ob S'.length] (S'.set n b5 ++ [rL rows]) = .ok (.p (imgD rows)) (S'.set n b5 ++ [rL rows]) := by
    unfold gToTup
    simp only [vl]
  simp -implicitDefEqProofs only [DL.wpW, reduceIte, Nat.reduceAdd, Nat.reduceLeDiff, DL.sFor_ap, gt]
  exact ⟨b5, .shape nm lab c w h rows, _, hb5, ⟨hcc, hr, hw1, hw3, hh1, hh2⟩, rfl, rfl⟩
end
end My

namespace My
open PySem PySem.Spec PyProof.Rows L2 DL
def Pt.g16 : Pt → Prop
  | .plain _ _ c _ => c < 4
  | .shape _ _ c w h rows => c < 4 ∧ imgOk w h rows ∧ 1 ≤ w ∧ w ≤ 16 ∧ 1 ≤ h ∧ h ≤ 16
  | .strip _ _ _ _ => True
theorem Pt.leaf.g {wide : Nat} (hw : wide ≤ 16) : ∀ {pt : Pt}, pt.leaf wide → pt.g16
  | .plain _ _ _ _, h => h
  | .shape _ _ _ _ _ _, ⟨h1, h2, h3, h4, h5, h6⟩ => ⟨h1, h2, h3, by omega, h5, by omega⟩
abbrev pyL (Ps : List Pt) : O := .lst (Ps.map fun p => D.p p.py)
theorem pyL_cl {k : Nat} {Ps : List Pt} : ClO k (pyL Ps) := fun d hd => by
  obtain ⟨p, _, rfl⟩ := List.mem_map.mp hd
  trivial
theorem s1 : (Str.ofString "plain" == Str.ofString "shape") = false := by decide +kernel
theorem s2 : (Str.ofString "across" == Str.ofString "shape") = false := by decide +kernel
theorem s3 : (Str.ofString "down" == Str.ofString "shape") = false := by decide +kernel
theorem s4 : (Str.ofString "down" == Str.ofString "across") = false := by decide +kernel
theorem s5 (ac : Bool) : (dirS ac == Str.ofString "shape") = false := by cases ac; exact s3; exact s2
theorem s6 (ac : Bool) : (dirS ac == Str.ofString "across") = ac := by cases ac; exact s4; exact beq_self_eq_true _
section
variable {S : Sto} {n m : Nat} {b : O} {Q : D → Sto → Prop} {E : Xc → Sto → Prop}
theorem set_get_ne {o : O} (h : n ≠ m) : (S.set n o)[m]? = S[m]? := List.getElem?_set_ne h
theorem place_wp {Ps : List Pt} {ac : Bool} (hs : S[n]? = some b) (hp : S[m]? = some (pyL Ps)) (hnm : n ≠ m) (hb : IsBox b) (hc : ClS 0 S) (hg : ∀ p ∈ Ps, p.g16) (h1 : 1 ≤ Ps.length) (h2 : Ps.length < 100)
    (q : ∀ b' p lo hi c, IsBox b' → Ex.ok Ps.length 0 (.pl p lo hi c) → Q (.p (Ex.pl p lo hi c).py) (S.set n b')) : WE (G_law_place [.ob n, .ob m, .str (dirS ac)] S) Q E := by
  have hl : n < S.length := (List.getElem?_eq_some_iff.mp hs).1
  refine WE_def (fun d S' => ∃ b' p lo hi c, IsBox b' ∧ Ex.ok Ps.length 0 (.pl p lo hi c) ∧ d = .p (Ex.pl p lo hi c).py ∧ S' = S.set n b') ?_ (fun d S' ⟨b', p, lo, hi, c, hb', ho, e1, e2⟩ => ⟨_, S.set n b', [], e1, by rw [e2, List.append_nil], by simp, clS_set hc hb'.cl, q b' p lo hi c hb' ho⟩)
  rw [show start0 NN_law_place [.ob n, .ob m, .str (dirS ac)] = [some (.ob n), some (.ob m), some (.str (dirS ac)), none, none, none, none, none] from rfl]
  unfold B_law_place
  have hm : ∀ b' : O, (S.set n b')[m]? = some (pyL Ps) := fun b' => by rw [set_get_ne hnm]; exact hp
  refine WS_cut (fun ρ S1 => ∃ b' k, IsBox b' ∧ k < Ps.length ∧ S1 = S.set n b' ∧ ρ = [some (.ob n), some (.ob m), some (.str (dirS ac)), some (.int (k : Nat)), none, none, none, none]) ?_ ?_
  · simp -implicitDefEqProofs only [DL.wpW, reduceIte, Nat.reduceAdd, Nat.reduceLeDiff, DL.sFor_ap]
    refine draw_wp hs hb (by decide) hc fun v b1 h0 h1' hb1 => ?_
    obtain ⟨v, rfl⟩ := Int.eq_ofNat_of_zero_le h0
    simp -implicitDefEqProofs only [DL.wpW, reduceIte, Nat.reduceAdd, Nat.reduceLeDiff, DL.sFor_ap, hm, List.length_map]
    rw [if_pos (by omega)]
    exact ⟨b1, v % Ps.length, hb1, Nat.mod_lt _ (by omega), by trivial, by simp⟩
  rintro ρ S1 ⟨b1, k, hb1, hk, rfl, rfl⟩
  have ek : Ps[k]? = some Ps[k] := List.getElem?_eq_getElem hk
  have gk := hg _ (List.getElem_mem hk)
  generalize Ps[k] = pt at ek gk
  refine WS_cut (fun ρ S1 => S1 = S.set n b1 ∧ ρ = [some (.ob n), some (.ob m), some (.str (dirS ac)), some (.int (k : Nat)), some (.p pt.py), none, none, none]) ?_ ?_
  · simp -implicitDefEqProofs only [DL.wpW, reduceIte, Nat.reduceAdd, Nat.reduceLeDiff, DL.sFor_ap, hm, List.getElem?_map, ek]
    all_goals exact ⟨by trivial, by trivial⟩
  rintro ρ S1 ⟨rfl, rfl⟩
  refine WS_cut (fun ρ S1 => ∃ b' c, IsBox b' ∧ c < 3 ∧ S1 = S.set n b' ∧ ρ = [some (.ob n), some (.ob m), some (.str (dirS ac)), some (.int (k : Nat)), some (.p pt.py), some (.int (c : Nat)), none, none]) ?_ ?_
  · simp -implicitDefEqProofs only [DL.wpW, reduceIte, Nat.reduceAdd, Nat.reduceLeDiff, DL.sFor_ap]
    refine draw_wp (set_get hl) hb1 (by decide) (clS_set hc hb1.cl) fun v b2 h0 h1' hb2 => ?_
    obtain ⟨v, rfl⟩ := Int.eq_ofNat_of_zero_le h0
    simp -implicitDefEqProofs only [DL.wpW, reduceIte, Nat.reduceAdd, Nat.reduceLeDiff, DL.sFor_ap, List.set_set]
    exact ⟨b2, v, hb2, by omega, by trivial, by trivial⟩
  rintro ρ S1 ⟨b2, c, hb2, hcc, rfl, rfl⟩
  refine WS_cut (fun ρ S1 => ∃ b', IsBox b' ∧ S1 = S.set n b' ∧ ρ = [some (.ob n), some (.ob m), some (.str (dirS ac)), some (.int (k : Nat)), some (.p pt.py), some (.int (c : Nat)), none, none]) ?_ ?_
  · cases pt with
    | plain nm lab c0 k0 =>
      simp -implicitDefEqProofs only [DL.wpW, reduceIte, Nat.reduceAdd, Nat.reduceLeDiff, DL.sFor_ap, Pt.py, s1]
      exact ⟨b2, hb2, by trivial, by trivial⟩
    | strip ac2 nm j e =>
      simp -implicitDefEqProofs only [DL.wpW, reduceIte, Nat.reduceAdd, Nat.reduceLeDiff, DL.sFor_ap, Pt.py, s5]
      exact ⟨b2, hb2, by trivial, by trivial⟩
    | shape nm lab c0 w h rows =>
      obtain ⟨g1, g2, g3, g4, g5, g6⟩ := gk
      simp -implicitDefEqProofs only [DL.wpW, reduceIte, Nat.reduceAdd, Nat.reduceLeDiff, DL.sFor_ap, Pt.py, beq_self_eq_true]
      refine draw_wp (set_get hl) hb2 (by decide) (clS_set hc hb2.cl) fun v b3 h0 h1' hb3 => ?_
      by_cases hv : 0 < v
      · have er : ∃ r, rows[0]? = some r ∧ r.length = w := by
          have hl0 : 0 < rows.length := by rw [g2.1]; omega
          exact ⟨rows[0], List.getElem?_eq_getElem hl0, (g2.2 _ (List.getElem_mem hl0)).1⟩
        obtain ⟨r, er, lr⟩ := er
        have z1 : w ≤ 16777216 := by omega
        cases ac with
        | true =>
          simp -implicitDefEqProofs only [DL.wpW, reduceIte, Nat.reduceAdd, Nat.reduceLeDiff, DL.sFor_ap, List.set_set, hv, decide_true, dirS, beq_self_eq_true, List.getElem?_map, er, gLen_str, sx_len, lr, z1]
          exact ⟨b3, k, w, w, c, hb3, ⟨hk, g3, by omega, g4, hcc⟩, by trivial, by trivial⟩
        | false =>
          simp -implicitDefEqProofs only [DL.wpW, reduceIte, Nat.reduceAdd, Nat.reduceLeDiff, DL.sFor_ap, List.set_set, hv, decide_true, dirS, s4, List.length_map, g2.1]
          exact ⟨b3, k, h, h, c, hb3, ⟨hk, g5, by omega, g6, hcc⟩, by trivial, by trivial⟩
      · simp -implicitDefEqProofs only [DL.wpW, reduceIte, Nat.reduceAdd, Nat.reduceLeDiff, DL.sFor_ap, List.set_set, hv, decide_false]
        exact ⟨b3, hb3, by trivial, by trivial⟩
  rintro ρ S1 ⟨b3, hb3, rfl, rfl⟩
  simp -implicitDefEqProofs only [DL.wpW, reduceIte, Nat.reduceAdd, Nat.reduceLeDiff, DL.sFor_ap]
  refine draw_wp (set_get hl) hb3 (by decide) (clS_set hc hb3.cl) fun v b4 h0 h1' hb4 => ?_
  simp -implicitDefEqProofs only [DL.wpW, reduceIte, Nat.reduceAdd, Nat.reduceLeDiff, DL.sFor_ap, List.set_set]
  refine draw_wp (set_get hl) hb4 (by decide) (clS_set hc hb4.cl) fun v2 b5 h20 h21 hb5 => ?_
  obtain ⟨v, rfl⟩ := Int.eq_ofNat_of_zero_le h0
  obtain ⟨v2, rfl⟩ := Int.eq_ofNat_of_zero_le h20
  simp -implicitDefEqProofs only [DL.wpW, reduceIte, Nat.reduceAdd, Nat.reduceLeDiff, DL.sFor_ap, List.set_set]
  exact ⟨b5, k, 1 + v, 1 + v + v2, c, hb5, ⟨hk, by omega, by omega, by omega, hcc⟩, by simp [Ex.py], by trivial⟩
theorem choice_wp {Ps : List Pt} {ac : Bool} (hnm : n ≠ m) (hg : ∀ p ∈ Ps, p.g16) (h1 : 1 ≤ Ps.length) (h2 : Ps.length < 100) : ∀ (d f : Nat) {S : Sto} {b : O} {Q : D → Sto → Prop} {E : Xc → Sto → Prop}, S[n]? = some b → S[m]? = some (pyL Ps) → IsBox b → ClS 0 S → d < f → d < 10 →
    (∀ b' e, IsBox b' → Ex.ok Ps.length d e → Q (.p e.py) (S.set n b')) → WE (G_law_choice f [.ob n, .ob m, .str (dirS ac), .int d] S) Q E := by
  intro d
  induction d with
  | zero =>
    intro f S b Q E hs hp hb hc hf hd q
    obtain ⟨f, rfl⟩ : ∃ f', f = f' + 1 := ⟨f - 1, by omega⟩
    have hl : n < S.length := (List.getElem?_eq_some_iff.mp hs).1
    have hm : ∀ b' : O, (S.set n b')[m]? = some (pyL Ps) := fun b' => by rw [set_get_ne hnm]; exact hp
    refine WE_def (fun d S' => ∃ b' e, IsBox b' ∧ Ex.ok Ps.length 0 e ∧ d = .p e.py ∧ S' = S.set n b') ?_ (fun d S' ⟨b', e, hb', ho, e1, e2⟩ => ⟨_, S.set n b', [], e1, by rw [e2, List.append_nil], by simp, clS_set hc hb'.cl, q b' e hb' ho⟩)
    rw [show start0 NN_law_choice [.ob n, .ob m, .str (dirS ac), .int (0 : Nat)] = [some (.ob n), some (.ob m), some (.str (dirS ac)), some (.int (0 : Nat)), none, none, none] from rfl]
    unfold B_law_choice
    simp -implicitDefEqProofs only [DL.wpW, reduceIte, Nat.reduceAdd, Nat.reduceLeDiff, DL.sFor_ap]
    refine draw_wp hs hb (by decide) hc fun v b1 h0 h1' hb1 => ?_
    simp -implicitDefEqProofs only [DL.wpW, reduceIte, Nat.reduceAdd, Nat.reduceLeDiff, DL.sFor_ap, Int.natCast_zero, beq_self_eq_true]
    refine place_wp (set_get hl) (hm b1) hnm hb1 (clS_set hc hb1.cl) hg h1 h2 fun b2 p lo hi c hb2 ho => ?_
    simp -implicitDefEqProofs only [DL.wpW, reduceIte, Nat.reduceAdd, Nat.reduceLeDiff, DL.sFor_ap, List.set_set]
    exact ⟨b2, _, hb2, ho, by trivial, by trivial⟩
  | succ d ih =>
    intro f S b Q E hs hp hb hc hf hd q
    obtain ⟨f, rfl⟩ : ∃ f', f = f' + 1 := ⟨f - 1, by omega⟩
    have hl : n < S.length := (List.getElem?_eq_some_iff.mp hs).1
    have hm : ∀ b' : O, (S.set n b')[m]? = some (pyL Ps) := fun b' => by rw [set_get_ne hnm]; exact hp
    refine WE_def (fun dd S' => ∃ b' e, IsBox b' ∧ Ex.ok Ps.length (d + 1) e ∧ dd = .p e.py ∧ S' = S.set n b') ?_ (fun d S' ⟨b', e, hb', ho, e1, e2⟩ => ⟨_, S.set n b', [], e1, by rw [e2, List.append_nil], by simp, clS_set hc hb'.cl, q b' e hb' ho⟩)
    rw [show start0 NN_law_choice [.ob n, .ob m, .str (dirS ac), .int ((d + 1 : Nat) : Int)] = [some (.ob n), some (.ob m), some (.str (dirS ac)), some (.int ((d + 1 : Nat) : Int)), none, none, none] from rfl]
    unfold B_law_choice
    have ed : (((d + 1 : Nat) : Int) == 0) = false := beq_eq_false_iff_ne.mpr (by omega)
    have ed2 : ((d + 1 : Nat) : Int) - 1 = (d : Nat) := by omega
    refine WS_cut (fun ρ S1 => ∃ b' kind, IsBox b' ∧ kind < 8 ∧ S1 = S.set n b' ∧ ρ = [some (.ob n), some (.ob m), some (.str (dirS ac)), some (.int ((d + 1 : Nat) : Int)), some (.int (kind : Nat)), none, none]) ?_ ?_
    · simp -implicitDefEqProofs only [DL.wpW, reduceIte, Nat.reduceAdd, Nat.reduceLeDiff, DL.sFor_ap]
      refine draw_wp hs hb (by decide) hc fun v b1 h0 h1' hb1 => ?_
      obtain ⟨v, rfl⟩ := Int.eq_ofNat_of_zero_le h0
      try simp -implicitDefEqProofs only [DL.wpW, reduceIte, Nat.reduceAdd, Nat.reduceLeDiff, DL.sFor_ap]
      exact ⟨b1, v, hb1, by omega, by trivial, by trivial⟩
    rintro ρ S1 ⟨b1, kind, hb1, hk, rfl, rfl⟩
    refine WS_cut (fun ρ S1 => S1 = S.set n b1 ∧ ρ = [some (.ob n), some (.ob m), some (.str (dirS ac)), some (.int ((d + 1 : Nat) : Int)), some (.int (kind : Nat)), none, none]) ?_ ?_
    · by_cases hk2 : (kind : Int) < 2
      · simp -implicitDefEqProofs only [DL.wpW, reduceIte, Nat.reduceAdd, Nat.reduceLeDiff, DL.sFor_ap, ed, hk2, decide_true]
        refine place_wp (set_get hl) (hm b1) hnm hb1 (clS_set hc hb1.cl) hg h1 h2 fun b2 p lo hi c hb2 ho => ?_
        simp -implicitDefEqProofs only [DL.wpW, reduceIte, Nat.reduceAdd, Nat.reduceLeDiff, DL.sFor_ap, List.set_set]
        exact ⟨b2, .pl p lo hi c, hb2, by simpa [Ex.ok] using ho, by trivial, by trivial⟩
      · simp -implicitDefEqProofs only [DL.wpW, reduceIte, Nat.reduceAdd, Nat.reduceLeDiff, DL.sFor_ap, ed, hk2, decide_false]
        all_goals exact ⟨by trivial, by trivial⟩
    rintro ρ S1 ⟨rfl, rfl⟩
    refine WS_cut (fun ρ S1 => S1 = S.set n b1 ∧ ρ = [some (.ob n), some (.ob m), some (.str (dirS ac)), some (.int ((d + 1 : Nat) : Int)), some (.int (kind : Nat)), none, none]) ?_ ?_
    · by_cases hk2 : (kind : Int) < 6
      · have b2 : big62 2 = true := big62_of (by decide) (by decide)
        simp -implicitDefEqProofs only [DL.wpW, reduceIte, Nat.reduceAdd, Nat.reduceLeDiff, DL.sFor_ap, hk2, decide_true, b2]
        refine WE_lc (fun i acc S' => ∃ b' es, IsBox b' ∧ es.length = i ∧ (∀ e ∈ es, Ex.ok Ps.length d e) ∧ acc = es.map Ex.py ∧ S' = S.set n b') _ 0 _ _ ⟨b1, [], hb1, rfl, (fun _ z => by cases z), rfl, rfl⟩ ?_ ?_
        · rintro i dd acc S' hd' ⟨b3, es, hb3, hes, hok, rfl, rfl⟩
          obtain ⟨hi, rfl⟩ := rngL_get hd'
          rw [show wipeE [some (.ob n), some (.ob m), some (.str (dirS ac)), some (.int ((d + 1 : Nat) : Int)), some (.int (kind : Nat)), none, none] [6] = [some (.ob n), some (.ob m), some (.str (dirS ac)), some (.int ((d + 1 : Nat) : Int)), some (.int (kind : Nat)), none, none] from rfl]
          simp -implicitDefEqProofs only [DL.wpW, reduceIte, Nat.reduceAdd, Nat.reduceLeDiff, DL.sFor_ap, ed2]
          refine ih f (set_get hl) (hm b3) hb3 (clS_set hc hb3.cl) (by omega) (by omega) fun b4 e hb4 he => ?_
          have hi2 : i < 2 := hi
          have hL : (es.map Ex.py).length < sizeLine := by rw [List.length_map, hes, sizeLine_eq]; omega
          simp -implicitDefEqProofs only [DL.wpW, reduceIte, Nat.reduceAdd, Nat.reduceLeDiff, DL.sFor_ap, List.set_set]
          refine ⟨_, _, rfl, by simpa using hL, trivial, b4, es ++ [e], hb4, by simp [hes], fun x hx => ?_, by simp, rfl⟩
          rcases List.mem_append.mp hx with z | z
          · exact hok x z
          · rw [List.mem_singleton.mp z]; exact he
        · rintro acc S' ⟨b3, es, hb3, hes, hok, rfl, rfl⟩
          have hes : es.length = 2 := hes
          obtain ⟨x, y, rfl⟩ : ∃ x y, es = [x, y] := by
            match es, hes with
            | [x, y], _ => exact ⟨x, y, rfl⟩
          have hx := hok x (by simp)
          have hy := hok y (by simp)
          have vl : vList (S.set n b3) (.p (.list [x.py, y.py])) = some [x.py, y.py] := rfl
          have gt : gToTup [.p (.list [x.py, y.py])] (S.set n b3) = .ok (.p (.tuple [x.py, y.py])) (S.set n b3) := by
            unfold gToTup
            simp only [vl]
          have h22 : kind % 2 = 0 ∨ kind % 2 = 1 := by omega
          have ekm : (kind : Int) % 2 = ((kind % 2 : Nat) : Int) := by simp
          simp -implicitDefEqProofs only [DL.wpW, reduceIte, Nat.reduceAdd, Nat.reduceLeDiff, DL.sFor_ap, List.map_cons, List.map_nil, gt, ekm]
          rw [if_pos (by decide)]
          rcases h22 with e2 | e2
          · simp -implicitDefEqProofs only [DL.wpW, reduceIte, Nat.reduceAdd, Nat.reduceLeDiff, DL.sFor_ap, e2]
            exact ⟨b3, .sq x y, hb3, ⟨hx, hy⟩, by trivial, by trivial⟩
          · simp -implicitDefEqProofs only [DL.wpW, reduceIte, Nat.reduceAdd, Nat.reduceLeDiff, DL.sFor_ap, e2]
            exact ⟨b3, .ch x y, hb3, ⟨hx, hy⟩, by trivial, by trivial⟩
      · simp -implicitDefEqProofs only [DL.wpW, reduceIte, Nat.reduceAdd, Nat.reduceLeDiff, DL.sFor_ap, hk2, decide_false]
        all_goals exact ⟨by trivial, by trivial⟩
    rintro ρ S1 ⟨rfl, rfl⟩
    simp -implicitDefEqProofs only [DL.wpW, reduceIte, Nat.reduceAdd, Nat.reduceLeDiff, DL.sFor_ap]
    refine draw_wp (set_get hl) hb1 (by decide) (clS_set hc hb1.cl) fun v b2 h0 h1' hb2 => ?_
    have hv : v = 0 ∨ v = 1 ∨ v = 2 := by omega
    rcases hv with rfl | rfl | rfl
    · simp -implicitDefEqProofs only [DL.wpW, reduceIte, Nat.reduceAdd, Nat.reduceLeDiff, DL.sFor_ap, List.set_set, ed2]
      refine ih f (set_get hl) (hm b2) hb2 (clS_set hc hb2.cl) (by omega) (by omega) fun b4 e hb4 he => ?_
      simp -implicitDefEqProofs only [DL.wpW, reduceIte, Nat.reduceAdd, Nat.reduceLeDiff, DL.sFor_ap, List.set_set]
      exact ⟨b4, .an e, hb4, he, by trivial, by trivial⟩
    · simp -implicitDefEqProofs only [DL.wpW, reduceIte, Nat.reduceAdd, Nat.reduceLeDiff, DL.sFor_ap, List.set_set, ed2]
      refine ih f (set_get hl) (hm b2) hb2 (clS_set hc hb2.cl) (by omega) (by omega) fun b4 e hb4 he => ?_
      simp -implicitDefEqProofs only [DL.wpW, reduceIte, Nat.reduceAdd, Nat.reduceLeDiff, DL.sFor_ap, List.set_set]
      exact ⟨b4, .so e, hb4, he, by trivial, by trivial⟩
    · simp -implicitDefEqProofs only [DL.wpW, reduceIte, Nat.reduceAdd, Nat.reduceLeDiff, DL.sFor_ap, List.set_set, ed2]
      refine ih f (set_get hl) (hm b2) hb2 (clS_set hc hb2.cl) (by omega) (by omega) fun b4 e hb4 he => ?_
      simp -implicitDefEqProofs only [DL.wpW, reduceIte, Nat.reduceAdd, Nat.reduceLeDiff, DL.sFor_ap, List.set_set]
      exact ⟨b4, .mb e, hb4, he, by trivial, by trivial⟩
end
end My

namespace My
open PySem PySem.Spec PyProof.Rows L2 DL
def stripAt (i : Nat) (t : Pt) : Prop := ∃ ac nm j e, t = .strip ac nm j e ∧ Ex.ok i 3 e
/-- leaves, and strips behind them -/
structure PsOk (wide strips : Nat) (Ps : List Pt) : Prop where
  ex : ∃ L T, Ps = L ++ T ∧ 2 ≤ L.length ∧ L.length ≤ 4 ∧ (∀ p ∈ L, p.leaf wide) ∧ T.length = strips ∧ ∀ i t, T[i]? = some t → stripAt (L.length + i) t
theorem PsOk.g {wide strips : Nat} {Ps : List Pt} (hw : wide ≤ 16) (h : PsOk wide strips Ps) : ∀ p ∈ Ps, p.g16 := by
  obtain ⟨L, T, rfl, h1, h2, h3, h4, h5⟩ := h.ex
  intro p hp
  rcases List.mem_append.mp hp with z | z
  · exact (h3 p z).g hw
  · obtain ⟨i, e⟩ := List.mem_iff_getElem?.mp z
    obtain ⟨ac, nm, j, ex, rfl, _⟩ := h5 i p e
    trivial
theorem PsOk.len {wide strips : Nat} {Ps : List Pt} (h : PsOk wide strips Ps) : 2 ≤ Ps.length ∧ Ps.length ≤ 4 + strips := by
  obtain ⟨L, T, rfl, h1, h2, h3, h4, h5⟩ := h.ex
  rw [List.length_append]
  omega
theorem PsOk.snoc {wide strips : Nat} {Ps : List Pt} {t : Pt} (h : PsOk wide strips Ps) (ht : stripAt Ps.length t) : PsOk wide (strips + 1) (Ps ++ [t]) := by
  obtain ⟨L, T, rfl, h1, h2, h3, h4, h5⟩ := h.ex
  refine ⟨L, T ++ [t], by simp, h1, h2, h3, by simp [h4], fun i t' e => ?_⟩
  by_cases hi : i < T.length
  · rw [List.getElem?_append_left hi] at e
    exact h5 i t' e
  · rw [List.getElem?_append_right (by omega)] at e
    have : i - T.length = 0 := by
      have := (List.getElem?_eq_some_iff.mp e).1
      simp at this
      omega
    rw [this] at e
    cases e
    rw [List.length_append] at ht
    rw [show L.length + i = L.length + T.length by omega]
    exact ht
theorem Ex.ok.up {n : Nat} : ∀ {d : Nat} {e : Ex}, e.ok n d → e.ok n (d + 1)
  | 0, .pl .., h => by simpa [Ex.ok] using h
  | d + 1, .pl .., h => by simpa [Ex.ok] using h
  | 0, .sq .., h => by simp [Ex.ok] at h
  | 0, .ch .., h => by simp [Ex.ok] at h
  | 0, .an .., h => by simp [Ex.ok] at h
  | 0, .so .., h => by simp [Ex.ok] at h
  | 0, .mb .., h => by simp [Ex.ok] at h
  | d + 1, .sq a b, h => by rw [Ex.ok] at h ⊢; exact ⟨h.1.up, h.2.up⟩
  | d + 1, .ch a b, h => by rw [Ex.ok] at h ⊢; exact ⟨h.1.up, h.2.up⟩
  | d + 1, .an a, h => by rw [Ex.ok] at h ⊢; exact h.up
  | d + 1, .so a, h => by rw [Ex.ok] at h ⊢; exact h.up
  | d + 1, .mb a, h => by rw [Ex.ok] at h ⊢; exact h.up
section
variable {S : Sto} {n : Nat} {b : O} {Q : D → Sto → Prop} {E : Xc → Sto → Prop}
theorem last_get {T : Sto} {x : O} : (T ++ [x])[T.length]? = some x := by simp
theorem lastn {o x : O} : (S.set n o ++ [x])[S.length]? = some x := by
  rw [List.getElem?_append_right (by simp)]; simp
theorem lasts {o x y : O} : (S.set n o ++ [x]).set S.length y = S.set n o ++ [y] := by
  rw [List.set_append_right _ _ (by simp)]; simp
theorem pyL_snoc {Ps : List Pt} {t : Pt} : O.lst ((Ps.map fun p => D.p p.py) ++ [D.p t.py]) = pyL (Ps ++ [t]) := by simp [pyL]
theorem parts_wp {wide strips : Nat} (hs : S[n]? = some b) (hb : IsBox b) (hc : ClS 0 S) (hw : 1 ≤ wide) (hw2 : wide ≤ 16) (hst : strips ≤ 8)
    (q : ∀ b' Ps, IsBox b' → PsOk wide strips Ps → Q (.p (.tuple (Ps.map Pt.py))) (S.set n b')) : WE (G_law_parts [.ob n, .int wide, .int strips] S) Q E := by
  have hl : n < S.length := (List.getElem?_eq_some_iff.mp hs).1
  have hne : n ≠ S.length := by omega
  have cl : ∀ {b' : O} {Ps : List Pt}, IsBox b' → ClS 0 (S.set n b' ++ [pyL Ps]) := fun hb' => clS_app (clS_set hc hb'.cl) (clS_one pyL_cl)
  refine WE_def (fun d S' => ∃ b' Ps T, IsBox b' ∧ PsOk wide strips Ps ∧ d = .p (.tuple (Ps.map Pt.py)) ∧ S' = S.set n b' ++ T) ?_ (fun d S' ⟨b', Ps, T, hb', hp, e1, e2⟩ => ⟨_, S.set n b', T, e1, e2, by simp, clS_set hc hb'.cl, q b' Ps hb' hp⟩)
  rw [show start0 NN_law_parts [.ob n, .int wide, .int strips] = [some (.ob n), some (.int wide), some (.int strips), none, none, none, none] from rfl]
  unfold B_law_parts
  refine WS_cut (fun ρ S1 => S1 = S.set n b ++ [pyL []] ∧ ρ = [some (.ob n), some (.int wide), some (.int strips), some (.ob S.length), none, none, none]) ?_ ?_
  · simp -implicitDefEqProofs only [DL.wpW, reduceIte, Nat.reduceAdd, Nat.reduceLeDiff, DL.sFor_ap]
    refine ⟨?_, by trivial⟩
    rw [← self_set hs]
    rfl
  rintro ρ S1 ⟨rfl, rfl⟩
  refine WS_cut (fun ρ S1 => ∃ b' Ps v4, IsBox b' ∧ PsOk wide 0 Ps ∧ S1 = S.set n b' ++ [pyL Ps] ∧ ρ = [some (.ob n), some (.int wide), some (.int strips), some (.ob S.length), v4, none, none]) ?_ ?_
  · simp -implicitDefEqProofs only [DL.wpW, reduceIte, Nat.reduceAdd, Nat.reduceLeDiff, DL.sFor_ap]
    refine draw_wp (get_set hl) hb (by decide) (cl hb) fun v b1 h0 h1 hb1 => ?_
    obtain ⟨v, rfl⟩ := Int.eq_ofNat_of_zero_le h0
    have bv : big62 (2 + (v : Int)) = true := big62_of (by omega) (by omega)
    simp -implicitDefEqProofs only [DL.wpW, reduceIte, Nat.reduceAdd, Nat.reduceLeDiff, DL.sFor_ap, set_app hl, bv]
    rw [show (2 + (v : Int)).toNat = 2 + v by omega]
    refine WS_for (fun i ρ S1 => ∃ b' Ps v4, IsBox b' ∧ Ps.length = i ∧ (∀ p ∈ Ps, Pt.leaf wide p) ∧ S1 = S.set n b' ++ [pyL Ps] ∧ ρ = [some (.ob n), some (.int wide), some (.int strips), some (.ob S.length), v4, none, none]) _ 0 _ _
      ⟨b1, [], none, hb1, rfl, (fun _ z => by cases z), rfl, rfl⟩ ?_ ?_
    · rintro i d ρ S2 hd ⟨b2, Ps, v4, hb2, hlen, hok, rfl, rfl⟩
      obtain ⟨hi, rfl⟩ := rngL_get hd
      simp -implicitDefEqProofs only [DL.wpW, reduceIte, Nat.reduceAdd, Nat.reduceLeDiff, DL.sFor_ap, lastn, Int.zero_add]
      refine leaf_wp (get_set hl) hb2 (cl hb2) (by omega) hw hw2 fun b3 pt hb3 hpt => ?_
      have hL : Ps.length < 16777216 := by omega
      simp -implicitDefEqProofs only [DL.wpW, reduceIte, Nat.reduceAdd, Nat.reduceLeDiff, DL.sFor_ap, set_app hl, lastn, List.length_map, hL, lasts, pyL_snoc]
      refine ⟨trivial, b3, Ps ++ [pt], some (.int i), hb3, by simp [hlen], fun p hp => ?_, by trivial, by trivial⟩
      rcases List.mem_append.mp hp with z | z
      · exact hok p z
      · rw [List.mem_singleton.mp z]; exact hpt
    · rintro ρ S2 ⟨b2, Ps, v4, hb2, hlen, hok, rfl, rfl⟩
      rw [rngL_length] at hlen
      exact ⟨b2, Ps, v4, hb2, ⟨Ps, [], by simp, by omega, by omega, hok, rfl, fun i t e => by simp at e⟩, rfl, rfl⟩
  rintro ρ S1 ⟨b1, Ps, v4, hb1, hps, rfl, rfl⟩
  refine WS_cut (fun ρ S1 => ∃ b' Ps v4 v5 v6, IsBox b' ∧ PsOk wide strips Ps ∧ S1 = S.set n b' ++ [pyL Ps] ∧ ρ = [some (.ob n), some (.int wide), some (.int strips), some (.ob S.length), v4, v5, v6]) ?_ ?_
  · have bs : big62 (strips : Int) = true := big62_nat (by omega)
    simp -implicitDefEqProofs only [DL.wpW, reduceIte, Nat.reduceAdd, Nat.reduceLeDiff, DL.sFor_ap, bs, Int.toNat_natCast]
    refine WS_for (fun i ρ S1 => ∃ b' Ps v4 v5 v6, IsBox b' ∧ PsOk wide i Ps ∧ S1 = S.set n b' ++ [pyL Ps] ∧ ρ = [some (.ob n), some (.int wide), some (.int strips), some (.ob S.length), v4, v5, v6]) _ 0 _ _
      ⟨b1, Ps, v4, none, none, hb1, hps, rfl, rfl⟩ ?_ ?_
    · rintro i d ρ S2 hd ⟨b2, Ps, v4, v5, v6, hb2, hps, rfl, rfl⟩
      obtain ⟨hi, rfl⟩ := rngL_get hd
      have hlog := toStr_log (show i < 1000 by omega)
      have hlen := toStr_len (show i < 1000 by omega)
      have p1 : (Str.ofString "s").length = 1 := by decide +kernel
      simp only [gNm_ap, WE_ok, List.set_cons_succ, List.set_cons_zero, Int.zero_add]
      refine WS_cut (fun ρ S1 => ∃ b' ac, IsBox b' ∧ S1 = S.set n b' ++ [pyL Ps] ∧ ρ = [some (.ob n), some (.int wide), some (.int strips), some (.ob S.length), some (.int (i : Int)), some (.str (dirS ac)), v6]) ?_ ?_
      · simp -implicitDefEqProofs only [DL.wpW, reduceIte, Nat.reduceAdd, Nat.reduceLeDiff, DL.sFor_ap]
        refine draw_wp (get_set hl) hb2 (by decide) (cl hb2) fun v b3 h0 h1 hb3 => ?_
        have h2 : v = 0 ∨ v = 1 := by omega
        rcases h2 with rfl | rfl
        · simp -implicitDefEqProofs only [DL.wpW, reduceIte, Nat.reduceAdd, Nat.reduceLeDiff, DL.sFor_ap, set_app hl]
          exact ⟨b3, true, hb3, by trivial, by trivial⟩
        · simp -implicitDefEqProofs only [DL.wpW, reduceIte, Nat.reduceAdd, Nat.reduceLeDiff, DL.sFor_ap, set_app hl]
          exact ⟨b3, false, hb3, by trivial, by trivial⟩
      rintro ρ S3 ⟨b3, ac, hb3, rfl, rfl⟩
      have hPl := hps.len
      refine WS_cut (fun ρ S1 => ∃ b' k e, (k = "any" ∨ k = "some") ∧ IsBox b' ∧ Ex.ok Ps.length 2 e ∧ S1 = S.set n b' ++ [pyL Ps] ∧ ρ = [some (.ob n), some (.int wide), some (.int strips), some (.ob S.length), some (.int (i : Int)), some (.str (dirS ac)), some (.p (.tuple [.str k, e.py]))]) ?_ ?_
      · simp -implicitDefEqProofs only [DL.wpW, reduceIte, Nat.reduceAdd, Nat.reduceLeDiff, DL.sFor_ap]
        refine draw_wp (get_set hl) hb3 (by decide) (cl hb3) fun v b4 h0 h1 hb4 => ?_
        have h2 : v = 0 ∨ v = 1 ∨ v = 2 := by omega
        have fin : ∀ k : Str, (k = "any" ∨ k = "some") → WE (G_law_choice 4 [.ob n, .ob S.length, .str (dirS ac), .int 2] (S.set n b4 ++ [pyL Ps])) (fun d S1 => ∃ b' e, d = .p e.py ∧ IsBox b' ∧ Ex.ok Ps.length 2 e ∧ S1 = S.set n b' ++ [pyL Ps]) (fun _ _ => False) := fun k hk => by
          refine choice_wp (n := n) (m := S.length) hne (hps.g hw2) (by omega) (by omega) 2 4 (get_set hl) lastn hb4 (cl hb4) (by decide) (by decide) fun b5 e hb5 he => ?_
          exact ⟨b5, e, rfl, hb5, he, by rw [set_app hl]⟩
        rcases h2 with rfl | rfl | rfl
        · simp -implicitDefEqProofs only [DL.wpW, reduceIte, Nat.reduceAdd, Nat.reduceLeDiff, DL.sFor_ap, set_app hl]
          refine WE_mono (fin "any" (.inl rfl)) (fun d S1 ⟨b5, e, ed, hb5, he, es⟩ => ?_) (fun _ _ z => z)
          subst ed es
          simp -implicitDefEqProofs only [DL.wpW, reduceIte, Nat.reduceAdd, Nat.reduceLeDiff, DL.sFor_ap]
          exact ⟨b5, "any", e, .inl rfl, hb5, he, by trivial, by trivial⟩
        · simp -implicitDefEqProofs only [DL.wpW, reduceIte, Nat.reduceAdd, Nat.reduceLeDiff, DL.sFor_ap, set_app hl]
          refine WE_mono (fin "some" (.inr rfl)) (fun d S1 ⟨b5, e, ed, hb5, he, es⟩ => ?_) (fun _ _ z => z)
          subst ed es
          simp -implicitDefEqProofs only [DL.wpW, reduceIte, Nat.reduceAdd, Nat.reduceLeDiff, DL.sFor_ap]
          exact ⟨b5, "some", e, .inr rfl, hb5, he, by trivial, by trivial⟩
        · simp -implicitDefEqProofs only [DL.wpW, reduceIte, Nat.reduceAdd, Nat.reduceLeDiff, DL.sFor_ap, set_app hl]
          refine WE_mono (fin "any" (.inl rfl)) (fun d S1 ⟨b5, e, ed, hb5, he, es⟩ => ?_) (fun _ _ z => z)
          subst ed es
          simp -implicitDefEqProofs only [DL.wpW, reduceIte, Nat.reduceAdd, Nat.reduceLeDiff, DL.sFor_ap]
          exact ⟨b5, "any", e, .inl rfl, hb5, he, by trivial, by trivial⟩
      rintro ρ S3 ⟨b4, k, e, hk, hb4, he, rfl, rfl⟩
      refine WS_cut (fun ρ S1 => ∃ b' e, IsBox b' ∧ Ex.ok Ps.length 3 e ∧ S1 = S.set n b' ++ [pyL Ps] ∧ ρ = [some (.ob n), some (.int wide), some (.int strips), some (.ob S.length), some (.int (i : Int)), some (.str (dirS ac)), some (.p e.py)]) ?_ ?_
      · simp -implicitDefEqProofs only [DL.wpW, reduceIte, Nat.reduceAdd, Nat.reduceLeDiff, DL.sFor_ap]
        refine draw_wp (get_set hl) hb4 (by decide) (cl hb4) fun v b5 h0 h1 hb5 => ?_
        by_cases hv : v = 0
        · subst hv
          simp -implicitDefEqProofs only [DL.wpW, reduceIte, Nat.reduceAdd, Nat.reduceLeDiff, DL.sFor_ap, set_app hl, beq_self_eq_true]
          exact ⟨b5, e, hb5, he.up, by trivial, by trivial⟩
        · have hv0 : (v == 0) = false := beq_eq_false_iff_ne.mpr hv
          simp -implicitDefEqProofs only [DL.wpW, reduceIte, Nat.reduceAdd, Nat.reduceLeDiff, DL.sFor_ap, set_app hl, hv0]
          rcases hk with rfl | rfl
          · exact ⟨b5, .an e, hb5, he, by trivial, by trivial⟩
          · exact ⟨b5, .so e, hb5, he, by trivial, by trivial⟩
      rintro ρ S3 ⟨b5, e2, hb5, he2, rfl, rfl⟩
      have hL : Ps.length < 16777216 := by omega
      simp -implicitDefEqProofs only [DL.wpW, reduceIte, Nat.reduceAdd, Nat.reduceLeDiff, DL.sFor_ap, lastn, hlog]
      rw [if_pos (by rw [p1]; omega)]
      refine draw_wp (get_set hl) hb5 (by decide) (cl hb5) fun v b6 h0 h1 hb6 => ?_
      have h2 : v = 0 ∨ v = 1 ∨ v = 2 := by omega
      have fin : ∀ j : Str, O.lst ((Ps.map fun p => D.p p.py) ++ [D.p (.tuple [.str (dirS ac), .str (Str.ofString "s" ++ Str.ofString (toString (i : Int))), .str j, e2.py])]) = pyL (Ps ++ [.strip ac (Str.ofString "s" ++ Str.ofString (toString (i : Int))) j e2]) := fun j => pyL_snoc (t := .strip ac (Str.ofString "s" ++ Str.ofString (toString (i : Int))) j e2)
      have fin2 : ∀ j : Str, PsOk wide (0 + i + 1) (Ps ++ [.strip ac (Str.ofString "s" ++ Str.ofString (toString (i : Int))) j e2]) := fun j => hps.snoc ⟨ac, _, j, e2, rfl, he2⟩
      rcases h2 with rfl | rfl | rfl
      · simp -implicitDefEqProofs only [DL.wpW, reduceIte, Nat.reduceAdd, Nat.reduceLeDiff, DL.sFor_ap, set_app hl, lastn, List.length_map, hL, lasts, fin]
        exact ⟨by trivial, b6, _, _, _, _, hb6, fin2 _, by trivial, by trivial⟩
      · simp -implicitDefEqProofs only [DL.wpW, reduceIte, Nat.reduceAdd, Nat.reduceLeDiff, DL.sFor_ap, set_app hl, lastn, List.length_map, hL, lasts, fin]
        exact ⟨by trivial, b6, _, _, _, _, hb6, fin2 _, by trivial, by trivial⟩
      · simp -implicitDefEqProofs only [DL.wpW, reduceIte, Nat.reduceAdd, Nat.reduceLeDiff, DL.sFor_ap, set_app hl, lastn, List.length_map, hL, lasts, fin]
        exact ⟨by trivial, b6, _, _, _, _, hb6, fin2 _, by trivial, by trivial⟩
    · rintro ρ S2 ⟨b2, Ps, v4, v5, v6, hb2, hps, rfl, rfl⟩
      rw [rngL_length, Nat.zero_add] at hps
      exact ⟨b2, Ps, v4, v5, v6, hb2, hps, rfl, rfl⟩
  rintro ρ S1 ⟨b2, Ps, v4, v5, v6, hb2, hps, rfl, rfl⟩
  have vl : vList (S.set n b2 ++ [pyL Ps]) (.ob S.length) = some (Ps.map Pt.py) := by
    show (match (S.set n b2 ++ [pyL Ps])[S.length]? with | some (.lst l) => pAll l | some (.fz l) => some l | _ => none) = _
    rw [lastn]
    show pAll (Ps.map fun p => D.p p.py) = _
    rw [show (Ps.map fun p => D.p p.py) = (Ps.map Pt.py).map .p by simp]
    exact pAll_map _
  have gt : gToTup [.ob S.length] (S.set n b2 ++ [pyL Ps]) = .ok (.p (.tuple (Ps.map Pt.py))) (S.set n b2 ++ [pyL Ps]) := by
    unfold gToTup
    simp only [vl]
  simp -implicitDefEqProofs only [DL.wpW, reduceIte, Nat.reduceAdd, Nat.reduceLeDiff, DL.sFor_ap, gt]
  exact ⟨b2, Ps, _, hb2, hps, by trivial, by trivial⟩
end
end My

namespace My
open PySem PySem.Spec PyProof.Rows L2 DL
/-! ### numbered trees -/
inductive NT where
  | pl (k : Nat)
  | sq (a b : NT)
  | ch (a b : NT)
  | an (a : NT)
  | so (a : NT)
  | mb (a : NT)
def NT.py : NT → PyData
  | .pl k => .tuple [.str "place", .int k]
  | .sq a b => .tuple [.str "sequence", .tuple [a.py, b.py]]
  | .ch a b => .tuple [.str "choice", .tuple [a.py, b.py]]
  | .an a => .tuple [.str "any", a.py]
  | .so a => .tuple [.str "some", a.py]
  | .mb a => .tuple [.str "maybe", a.py]
def NT.dep : NT → Nat
  | .pl _ => 0
  | .sq a b => max a.dep b.dep + 1
  | .ch a b => max a.dep b.dep + 1
  | .an a => a.dep + 1
  | .so a => a.dep + 1
  | .mb a => a.dep + 1
def Ex.dep : Ex → Nat
  | .pl .. => 0
  | .sq a b => max a.dep b.dep + 1
  | .ch a b => max a.dep b.dep + 1
  | .an a => a.dep + 1
  | .so a => a.dep + 1
  | .mb a => a.dep + 1
def Ex.cnt : Ex → Nat
  | .pl .. => 1
  | .sq a b => a.cnt + b.cnt
  | .ch a b => a.cnt + b.cnt
  | .an a => a.cnt
  | .so a => a.cnt
  | .mb a => a.cnt
/-- the places in their order -/
def Ex.pls : Ex → List PyData
  | .pl p lo hi c => [(Ex.pl p lo hi c).py]
  | .sq a b => a.pls ++ b.pls
  | .ch a b => a.pls ++ b.pls
  | .an a => a.pls
  | .so a => a.pls
  | .mb a => a.pls
def Ex.num : Ex → Nat → NT
  | .pl .., k => .pl (k + 1)
  | .sq a b, k => .sq (a.num k) (b.num (k + a.cnt))
  | .ch a b, k => .ch (a.num k) (b.num (k + a.cnt))
  | .an a, k => .an (a.num k)
  | .so a, k => .so (a.num k)
  | .mb a, k => .mb (a.num k)
theorem Ex.num_dep : ∀ (e : Ex) (k : Nat), (e.num k).dep = e.dep
  | .pl .., _ => rfl
  | .sq a b, k => by simp [Ex.num, NT.dep, Ex.dep, a.num_dep, b.num_dep]
  | .ch a b, k => by simp [Ex.num, NT.dep, Ex.dep, a.num_dep, b.num_dep]
  | .an a, k => by simp [Ex.num, NT.dep, Ex.dep, a.num_dep]
  | .so a, k => by simp [Ex.num, NT.dep, Ex.dep, a.num_dep]
  | .mb a, k => by simp [Ex.num, NT.dep, Ex.dep, a.num_dep]
theorem Ex.pls_len : ∀ e : Ex, e.pls.length = e.cnt
  | .pl .. => rfl
  | .sq a b => by simp [Ex.pls, Ex.cnt, a.pls_len, b.pls_len]
  | .ch a b => by simp [Ex.pls, Ex.cnt, a.pls_len, b.pls_len]
  | .an a => a.pls_len
  | .so a => a.pls_len
  | .mb a => a.pls_len
theorem Ex.ok.cnt {n : Nat} : ∀ {d : Nat} {e : Ex}, e.ok n d → e.dep ≤ d ∧ e.cnt ≤ 2 ^ d
  | 0, .pl .., _ => by simp [Ex.dep, Ex.cnt]
  | d + 1, .pl .., _ => ⟨Nat.zero_le _, Nat.one_le_two_pow⟩
  | d + 1, .sq a b, h => by
    have h1 := Ex.ok.cnt h.1
    have h2 := Ex.ok.cnt h.2
    simp only [Ex.dep, Ex.cnt, Nat.pow_succ]
    omega
  | d + 1, .ch a b, h => by
    have h1 := Ex.ok.cnt h.1
    have h2 := Ex.ok.cnt h.2
    simp only [Ex.dep, Ex.cnt, Nat.pow_succ]
    omega
  | d + 1, .an a, h => by
    have h1 := Ex.ok.cnt (e := a) h
    simp only [Ex.dep, Ex.cnt, Nat.pow_succ]
    omega
  | d + 1, .so a, h => by
    have h1 := Ex.ok.cnt (e := a) h
    simp only [Ex.dep, Ex.cnt, Nat.pow_succ]
    omega
  | d + 1, .mb a, h => by
    have h1 := Ex.ok.cnt (e := a) h
    simp only [Ex.dep, Ex.cnt, Nat.pow_succ]
    omega
  | 0, .sq .., h => by simp [Ex.ok] at h
  | 0, .ch .., h => by simp [Ex.ok] at h
  | 0, .an .., h => by simp [Ex.ok] at h
  | 0, .so .., h => by simp [Ex.ok] at h
  | 0, .mb .., h => by simp [Ex.ok] at h
/-! words in tuples of words -/
theorem inw {neg : Bool} {k : Str} {l : List PyData} {S : Sto} (h1 : SeqAt.shaped (.str k) = true) (h2 : SeqAt.shaped (.tuple l) = true) : gInA neg (.p (.str k)) (.p (.tuple l)) S = .ok (.bl (neg ^^ l.any fun z => PyData.eqv z (.str k))) S := by
  rw [gInA_of dicO_p, gInT_tup h1 h2]
abbrev L3 : List PyData := [.str "any", .str "some", .str "maybe"]
theorem l3s : SeqAt.shaped (.tuple L3) = true := by decide +kernel
theorem l2s : SeqAt.shaped (.tuple [.str "any", .str "maybe"]) = true := by decide +kernel
theorem l2t : SeqAt.shaped (.tuple [.str "any", .str "some"]) = true := by decide +kernel
theorem l2u : SeqAt.shaped (.tuple [.str "choice", .str "sequence"]) = true := by decide +kernel
theorem ws1 : SeqAt.shaped (.str "place") = true := by decide +kernel
theorem ws2 : SeqAt.shaped (.str "sequence") = true := by decide +kernel
theorem ws3 : SeqAt.shaped (.str "choice") = true := by decide +kernel
theorem ws4 : SeqAt.shaped (.str "any") = true := by decide +kernel
theorem ws5 : SeqAt.shaped (.str "some") = true := by decide +kernel
theorem ws6 : SeqAt.shaped (.str "maybe") = true := by decide +kernel
theorem a1 : (L3.any fun z => PyData.eqv z (.str "place")) = false := by decide +kernel
theorem a2 : (L3.any fun z => PyData.eqv z (.str "sequence")) = false := by decide +kernel
theorem a3 : (L3.any fun z => PyData.eqv z (.str "choice")) = false := by decide +kernel
theorem a4 : (L3.any fun z => PyData.eqv z (.str "any")) = true := by decide +kernel
theorem a5 : (L3.any fun z => PyData.eqv z (.str "some")) = true := by decide +kernel
theorem a6 : (L3.any fun z => PyData.eqv z (.str "maybe")) = true := by decide +kernel
theorem b2 : ([PyData.str "any", .str "maybe"].any fun z => PyData.eqv z (.str "sequence")) = false := by decide +kernel
theorem b3 : ([PyData.str "any", .str "maybe"].any fun z => PyData.eqv z (.str "choice")) = false := by decide +kernel
theorem b4 : ([PyData.str "any", .str "maybe"].any fun z => PyData.eqv z (.str "any")) = true := by decide +kernel
theorem b6 : ([PyData.str "any", .str "maybe"].any fun z => PyData.eqv z (.str "maybe")) = true := by decide +kernel
theorem c1 : ([PyData.str "any", .str "some"].any fun z => PyData.eqv z (.str "place")) = false := by decide +kernel
theorem c2 : ([PyData.str "any", .str "some"].any fun z => PyData.eqv z (.str "sequence")) = false := by decide +kernel
theorem c3 : ([PyData.str "any", .str "some"].any fun z => PyData.eqv z (.str "choice")) = false := by decide +kernel
theorem c4 : ([PyData.str "any", .str "some"].any fun z => PyData.eqv z (.str "any")) = true := by decide +kernel
theorem c5 : ([PyData.str "any", .str "some"].any fun z => PyData.eqv z (.str "some")) = true := by decide +kernel
theorem c6 : ([PyData.str "any", .str "some"].any fun z => PyData.eqv z (.str "maybe")) = false := by decide +kernel
theorem d1 : ([PyData.str "choice", .str "sequence"].any fun z => PyData.eqv z (.str "place")) = false := by decide +kernel
theorem d2 : ([PyData.str "choice", .str "sequence"].any fun z => PyData.eqv z (.str "sequence")) = true := by decide +kernel
theorem d3 : ([PyData.str "choice", .str "sequence"].any fun z => PyData.eqv z (.str "choice")) = true := by decide +kernel
theorem d4 : ([PyData.str "choice", .str "sequence"].any fun z => PyData.eqv z (.str "any")) = false := by decide +kernel
theorem d5 : ([PyData.str "choice", .str "sequence"].any fun z => PyData.eqv z (.str "some")) = false := by decide +kernel
theorem d6 : ([PyData.str "choice", .str "sequence"].any fun z => PyData.eqv z (.str "maybe")) = false := by decide +kernel
theorem e2 : (Str.ofString "sequence" == Str.ofString "place") = false := by decide +kernel
theorem e3 : (Str.ofString "choice" == Str.ofString "place") = false := by decide +kernel
theorem e4 : (Str.ofString "any" == Str.ofString "place") = false := by decide +kernel
theorem e5 : (Str.ofString "some" == Str.ofString "place") = false := by decide +kernel
theorem e6 : (Str.ofString "maybe" == Str.ofString "place") = false := by decide +kernel
theorem f2 : (Str.ofString "sequence" == Str.ofString "some") = false := by decide +kernel
theorem f3 : (Str.ofString "choice" == Str.ofString "some") = false := by decide +kernel
theorem f4 : (Str.ofString "any" == Str.ofString "some") = false := by decide +kernel
theorem f6 : (Str.ofString "maybe" == Str.ofString "some") = false := by decide +kernel
theorem g2 : (Str.ofString "sequence" == Str.ofString "choice") = false := by decide +kernel
theorem h1 : (Str.ofString "place" == Str.ofString "sequence") = false := by decide +kernel
theorem h3 : (Str.ofString "choice" == Str.ofString "sequence") = false := by decide +kernel
theorem h4 : (Str.ofString "any" == Str.ofString "sequence") = false := by decide +kernel
theorem h5 : (Str.ofString "some" == Str.ofString "sequence") = false := by decide +kernel
theorem h6 : (Str.ofString "maybe" == Str.ofString "sequence") = false := by decide +kernel
abbrev dL (ps : List PyData) : O := .lst (ps.map .p)
theorem dL_snoc {ps : List PyData} {p : PyData} : O.lst (ps.map D.p ++ [D.p p]) = dL (ps ++ [p]) := by simp [dL]
section
variable {S : Sto} {m : Nat} {Q : D → Sto → Prop} {E : Xc → Sto → Prop}
theorem toTup2 {x y : PyData} {S : Sto} : gToTup [.p (.list [x, y])] S = .ok (.p (.tuple [x, y])) S := by
  have vl : vList S (.p (.list [x, y])) = some [x, y] := rfl
  unfold gToTup
  simp only [vl]
end
end My

namespace My
open PySem PySem.Spec PyProof.Rows L2 DL
def NT.null : NT → Bool
  | .pl _ => false
  | .sq a b => a.null && b.null
  | .ch a b => a.null || b.null
  | .an _ => true
  | .so a => a.null
  | .mb _ => true
/-- places that can stand first, or last -/
def NT.ends (last : Bool) : NT → List Nat
  | .pl k => [k]
  | .sq a b => if last = true then b.ends last ++ (if b.null = true then a.ends last else []) else a.ends last ++ (if a.null = true then b.ends last else [])
  | .ch a b => if last = true then b.ends last ++ a.ends last else a.ends last ++ b.ends last
  | .an a => a.ends last
  | .so a => a.ends last
  | .mb a => a.ends last
def prodL (as bs : List Nat) : List (Nat × Nat) := as.flatMap fun a => bs.map fun b => (a, b)
def NT.fol : NT → List (Nat × Nat)
  | .pl _ => []
  | .sq a b => (a.fol ++ b.fol) ++ prodL (a.ends true) (b.ends false)
  | .ch a b => a.fol ++ b.fol
  | .an a => prodL (a.ends true) (a.ends false) ++ a.fol
  | .so a => prodL (a.ends true) (a.ends false) ++ a.fol
  | .mb a => a.fol
def NT.cnt : NT → Nat
  | .pl _ => 1
  | .sq a b => a.cnt + b.cnt
  | .ch a b => a.cnt + b.cnt
  | .an a => a.cnt
  | .so a => a.cnt
  | .mb a => a.cnt
theorem NT.ends_len (last : Bool) : ∀ t : NT, (t.ends last).length ≤ t.cnt
  | .pl _ => Nat.le_refl _
  | .sq a b => by
    have h1 := a.ends_len last
    have h2 := b.ends_len last
    unfold NT.ends NT.cnt
    split <;> split <;> simp only [List.length_append, List.length_nil] <;> omega
  | .ch a b => by
    have h1 := a.ends_len last
    have h2 := b.ends_len last
    unfold NT.ends NT.cnt
    split <;> simp only [List.length_append] <;> omega
  | .an a => a.ends_len last
  | .so a => a.ends_len last
  | .mb a => a.ends_len last
theorem prodL_len (as bs : List Nat) : (prodL as bs).length = as.length * bs.length := by
  unfold prodL
  induction as with
  | nil => simp
  | cons a as ih => simp [List.flatMap_cons, ih, Nat.add_mul, Nat.add_comm]
theorem NT.fol_len : ∀ t : NT, t.fol.length ≤ t.cnt * t.cnt * (t.dep + 1)
  | .pl _ => by simp [NT.fol]
  | .sq a b => by
    have h1 := a.fol_len
    have h2 := b.fol_len
    have h3 := a.ends_len true
    have h4 := b.ends_len false
    have h5 := Nat.mul_le_mul h3 h4
    unfold NT.fol NT.cnt NT.dep
    simp only [List.length_append, prodL_len]
    have h6 : a.cnt * a.cnt * (a.dep + 1) ≤ a.cnt * a.cnt * (max a.dep b.dep + 1) := Nat.mul_le_mul_left _ (by omega)
    have h7 : b.cnt * b.cnt * (b.dep + 1) ≤ b.cnt * b.cnt * (max a.dep b.dep + 1) := Nat.mul_le_mul_left _ (by omega)
    generalize max a.dep b.dep = d at h6 h7 ⊢
    have e : (a.cnt + b.cnt) * (a.cnt + b.cnt) * (d + 1 + 1) = a.cnt * a.cnt * (d + 1) + b.cnt * b.cnt * (d + 1) + (a.cnt * a.cnt + b.cnt * b.cnt + 2 * (a.cnt * b.cnt) * (d + 2)) := by grind
    have e2 : a.cnt * b.cnt ≤ 2 * (a.cnt * b.cnt) * (d + 2) := by
      have : a.cnt * b.cnt * 1 ≤ a.cnt * b.cnt * (2 * (d + 2)) := Nat.mul_le_mul_left _ (by omega)
      grind
    omega
  | .ch a b => by
    have h1 := a.fol_len
    have h2 := b.fol_len
    unfold NT.fol NT.cnt NT.dep
    simp only [List.length_append]
    have h6 : a.cnt * a.cnt * (a.dep + 1) ≤ a.cnt * a.cnt * (max a.dep b.dep + 1) := Nat.mul_le_mul_left _ (by omega)
    have h7 : b.cnt * b.cnt * (b.dep + 1) ≤ b.cnt * b.cnt * (max a.dep b.dep + 1) := Nat.mul_le_mul_left _ (by omega)
    generalize max a.dep b.dep = d at h6 h7 ⊢
    have e : (a.cnt + b.cnt) * (a.cnt + b.cnt) * (d + 1 + 1) = a.cnt * a.cnt * (d + 1) + b.cnt * b.cnt * (d + 1) + (a.cnt * a.cnt + b.cnt * b.cnt + 2 * (a.cnt * b.cnt) * (d + 2)) := by grind
    omega
  | .an a => by
    have h1 := a.fol_len
    have h5 := Nat.mul_le_mul (a.ends_len true) (a.ends_len false)
    unfold NT.fol NT.cnt NT.dep
    simp only [List.length_append, prodL_len]
    have e : a.cnt * a.cnt * (a.dep + 1 + 1) = a.cnt * a.cnt * (a.dep + 1) + a.cnt * a.cnt := by grind
    omega
  | .so a => by
    have h1 := a.fol_len
    have h5 := Nat.mul_le_mul (a.ends_len true) (a.ends_len false)
    unfold NT.fol NT.cnt NT.dep
    simp only [List.length_append, prodL_len]
    have e : a.cnt * a.cnt * (a.dep + 1 + 1) = a.cnt * a.cnt * (a.dep + 1) + a.cnt * a.cnt := by grind
    omega
  | .mb a => by
    have h1 := a.fol_len
    unfold NT.fol NT.cnt NT.dep
    have e : a.cnt * a.cnt * (a.dep + 1 + 1) = a.cnt * a.cnt * (a.dep + 1) + a.cnt * a.cnt := by grind
    omega
abbrev iLs (l : List Nat) : List PyData := l.map fun (k : Nat) => .int k
section
variable {S : Sto} {m : Nat} {Q : D → Sto → Prop} {E : Xc → Sto → Prop}
theorem inb {neg c x y : Bool} {S : Sto} : gInA neg (.p (.bool c)) (.p (.list [.bool x, .bool y])) S = .ok (.bl (neg ^^ (x == c || y == c))) S := by
  rw [gInA_of dicO_p]
  have e : gInT neg (.p (.bool c)) (.p (.list [.bool x, .bool y])) S = gIn neg (.p (.bool c)) (.p (.list [.bool x, .bool y])) S := rfl
  rw [e]
  have e2 : gIn neg (.p (.bool c)) (.p (.list [.bool x, .bool y])) S = .ok (.bl (neg ^^ ([PyData.bool x, PyData.bool y].any fun z => PyData.eqv z (.bool c)))) S := rfl
  rw [e2]
  cases x <;> cases y <;> cases c <;> rfl
end
end My

namespace My
open PySem PySem.Spec PyProof.Rows L2 DL
section
variable {S : Sto} {m : Nat} {Q : D → Sto → Prop} {E : Xc → Sto → Prop}
theorem gRevL_ob {n : Nat} {S : Sto} : gRevL (.ob n) [] S = (match oLst S (.ob n) with
    | some (n, l) => .ok .non (S.set n (.lst l.reverse))
    | none => .st) := rfl
theorem toListO2 {x y : PyData} {S : Sto} : gToListO [.p (.tuple [x, y])] S = .ok (.ob S.length) (S ++ [.lst [.p x, .p y]]) := rfl
theorem iLs_app (a b : List Nat) : iLs a ++ iLs b = iLs (a ++ b) := by simp [iLs]
theorem lItems_last {S : Sto} {l : List D} : lItems (S ++ [.lst l]) (.ob S.length) = some l := by
  rw [lItems_ob]; simp
theorem lastset {S : Sto} {x y : O} : (S ++ [x]).set S.length y = S ++ [y] := by
  rw [List.set_append_right _ _ (Nat.le_refl _)]; simp
theorem lastget {S : Sto} {x : O} : (S ++ [x])[S.length]? = some x := by simp
end
end My

namespace My
open PySem PySem.Spec PyProof.Rows L2 DL
def pD (p : Nat × Nat) : PyData := .tuple [.int p.1, .int p.2]
abbrev prO (l : List (Nat × Nat)) : O := dL (l.map pD)
theorem prodL_snoc {as bs : List Nat} {i a : Nat} (h : as[i]? = some a) : prodL (as.take (i + 1)) bs = prodL (as.take i) bs ++ bs.map fun b => (a, b) := by
  rw [List.take_succ, h]
  simp [prodL, List.flatMap_append]
section
variable {S : Sto} {m : Nat} {Q : D → Sto → Prop} {E : Xc → Sto → Prop}
abbrev Qn (M : DL.Env → Sto → Prop) : Wn := ⟨M, fun _ _ => False, fun _ _ => False, fun _ _ => False, fun _ _ _ => False⟩
theorem prod_wp {E1 E2 : ED} {as bs : List Nat} {v0 v2 v3 v4 v5 v6 : Option D} {ps : List (Nat × Nat)} (hm : m < S.length) (hc : ClS 0 S) (hlen : ps.length + as.length * bs.length < 1000000)
    (h1 : ∀ (S : Sto) (Q : D → Sto → Prop) (E : Xc → Sto → Prop) (v2 v5 : Option D), ClS 0 S → Q (.p (.list (iLs as))) S → WE (E1 [v0, some (.ob m), v2, v3, v4, v5, v6] S) Q E)
    (h2 : ∀ (S : Sto) (Q : D → Sto → Prop) (E : Xc → Sto → Prop) (v2 v5 : Option D), ClS 0 S → Q (.p (.list (iLs bs))) S → WE (E2 [v0, some (.ob m), v2, v3, v4, v5, v6] S) Q E) :
    WS (sFor (iLst E1) (gNm 2) (sFor (iLst E2) (gNm 5) (sExpr (eMth gApp (eVar 1) (aCons (eTup (aCons (eVar 2) (aCons (eVar 5) (aNil)))) (aNil))))) [v0, some (.ob m), v2, v3, v4, v5, v6] (S.set m (prO ps)))
      (Qn fun ρ S' => ∃ v2 v5, S' = S.set m (prO (ps ++ prodL as bs)) ∧ ρ = [v0, some (.ob m), v2, v3, v4, v5, v6]) := by
  have cl : ∀ {l : List (Nat × Nat)}, ClS 0 (S.set m (prO l)) := clS_set hc clO_p
  simp -implicitDefEqProofs only [DL.wpW, reduceIte, Nat.reduceAdd, Nat.reduceLeDiff, DL.sFor_ap]
  refine h1 _ _ _ _ _ cl ?_
  simp -implicitDefEqProofs only [DL.wpW, reduceIte, Nat.reduceAdd, Nat.reduceLeDiff, DL.sFor_ap]
  refine WS_for (fun i ρ S' => ∃ v2 v5, S' = S.set m (prO (ps ++ prodL (as.take i) bs)) ∧ ρ = [v0, some (.ob m), v2, v3, v4, v5, v6]) _ 0 _ _ ⟨_, _, by simp [prodL], rfl⟩ ?_ ?_
  · rintro i d ρ S' hd ⟨w2, w5, rfl, rfl⟩
    rw [List.map_map, List.getElem?_map] at hd
    cases ea : as[i]? with
    | none => rw [ea] at hd; cases hd
    | some a =>
      rw [ea] at hd
      cases hd
      rw [Nat.zero_add, prodL_snoc ea]
      have hi : i < as.length := (List.getElem?_eq_some_iff.mp ea).1
      have pl : (prodL (as.take i) bs).length + bs.length ≤ as.length * bs.length := by
        rw [prodL_len, List.length_take, Nat.min_eq_left (Nat.le_of_lt hi)]
        have := Nat.mul_le_mul_right bs.length hi
        rw [Nat.succ_mul] at this
        exact this
      simp -implicitDefEqProofs only [DL.wpW, reduceIte, Nat.reduceAdd, Nat.reduceLeDiff, DL.sFor_ap, Function.comp_apply]
      refine h2 _ _ _ _ _ cl ?_
      simp -implicitDefEqProofs only [DL.wpW, reduceIte, Nat.reduceAdd, Nat.reduceLeDiff, DL.sFor_ap]
      refine WS_for (fun j ρ S' => ∃ v5, S' = S.set m (prO (ps ++ prodL (as.take i) bs ++ (bs.take j).map fun b => (a, b))) ∧ ρ = [v0, some (.ob m), some (.int a), v3, v4, v5, v6]) _ 0 _ _ ⟨_, by simp, rfl⟩ ?_ ?_
      · rintro j d ρ S' hd ⟨w5, rfl, rfl⟩
        rw [List.map_map, List.getElem?_map] at hd
        cases eb : bs[j]? with
        | none => rw [eb] at hd; cases hd
        | some b =>
          rw [eb] at hd
          cases hd
          have hj : j < bs.length := (List.getElem?_eq_some_iff.mp eb).1
          have hL : (ps ++ prodL (as.take i) bs ++ (bs.take j).map fun b => (a, b)).length < 16777216 := by
            simp only [List.length_append, List.length_map, List.length_take]
            omega
          have tk : bs.take (j + 1) = bs.take j ++ [b] := by
            rw [List.take_succ, eb]; rfl
          rw [Nat.zero_add, tk]
          have at1 := List.getElem?_set_self (a := prO (ps ++ prodL (as.take i) bs ++ (bs.take j).map fun b => (a, b))) hm
          simp -implicitDefEqProofs only [DL.wpW, reduceIte, Nat.reduceAdd, Nat.reduceLeDiff, DL.sFor_ap, Function.comp_apply, at1, List.length_map, hL, List.set_set, dL_snoc]
          exact ⟨by trivial, _, by simp [prO, dL, pD, List.map_take, Function.comp_def], rfl⟩
      · rintro ρ S' ⟨w5, rfl, rfl⟩
        rw [List.length_map, List.length_map, Nat.zero_add, List.take_length]
        exact ⟨by trivial, _, _, by simp, rfl⟩
  · rintro ρ S' ⟨w2, w5, rfl, rfl⟩
    rw [List.length_map, List.length_map, Nat.zero_add, List.take_length]
    exact ⟨_, _, rfl, rfl⟩
end
end My

namespace My
open PySem PySem.Spec PyProof.Rows L2 DL
/-! ### machines -/
theorem Ex.num_cnt : ∀ (e : Ex) (k : Nat), (e.num k).cnt = e.cnt
  | .pl .., _ => rfl
  | .sq a b, k => by simp [Ex.num, NT.cnt, Ex.cnt, a.num_cnt, b.num_cnt]
  | .ch a b, k => by simp [Ex.num, NT.cnt, Ex.cnt, a.num_cnt, b.num_cnt]
  | .an a, k => by simp [Ex.num, NT.cnt, Ex.cnt, a.num_cnt]
  | .so a, k => by simp [Ex.num, NT.cnt, Ex.cnt, a.num_cnt]
  | .mb a, k => by simp [Ex.num, NT.cnt, Ex.cnt, a.num_cnt]
theorem Ex.num_ends (last : Bool) : ∀ (e : Ex) (k b : Nat), b ∈ (e.num k).ends last → k < b ∧ b ≤ k + e.cnt
  | .pl .., k, b, h => by
    have : b = k + 1 := by simpa [Ex.num, NT.ends] using h
    subst this
    simp [Ex.cnt]
  | .sq x y, k, b, h => by
    have h1 := x.num_ends last k b
    have h2 := y.num_ends last (k + x.cnt) b
    unfold Ex.num NT.ends at h
    simp only [Ex.cnt]
    split at h
    · rcases List.mem_append.mp h with z | z
      · have := h2 z; omega
      · split at z
        · have := h1 z; omega
        · cases z
    · rcases List.mem_append.mp h with z | z
      · have := h1 z; omega
      · split at z
        · have := h2 z; omega
        · cases z
  | .ch x y, k, b, h => by
    have h1 := x.num_ends last k b
    have h2 := y.num_ends last (k + x.cnt) b
    unfold Ex.num NT.ends at h
    simp only [Ex.cnt]
    split at h
    · rcases List.mem_append.mp h with z | z
      · have := h2 z; omega
      · have := h1 z; omega
    · rcases List.mem_append.mp h with z | z
      · have := h1 z; omega
      · have := h2 z; omega
  | .an x, k, b, h => x.num_ends last k b h
  | .so x, k, b, h => x.num_ends last k b h
  | .mb x, k, b, h => x.num_ends last k b h
theorem mem_prodL {as bs : List Nat} {p : Nat × Nat} (h : p ∈ prodL as bs) : p.1 ∈ as ∧ p.2 ∈ bs := by
  unfold prodL at h
  obtain ⟨a, ha, h⟩ := List.mem_flatMap.mp h
  obtain ⟨b, hb, rfl⟩ := List.mem_map.mp h
  exact ⟨ha, hb⟩
theorem Ex.num_fol : ∀ (e : Ex) (k : Nat) (p : Nat × Nat), p ∈ (e.num k).fol → k < p.2 ∧ p.2 ≤ k + e.cnt
  | .pl .., k, p, h => by simp [Ex.num, NT.fol] at h
  | .sq x y, k, p, h => by
    have h1 := x.num_fol k p
    have h2 := y.num_fol (k + x.cnt) p
    have h3 := y.num_ends false (k + x.cnt) p.2
    unfold Ex.num NT.fol at h
    simp only [Ex.cnt]
    rcases List.mem_append.mp h with z | z
    · rcases List.mem_append.mp z with z | z
      · have := h1 z; omega
      · have := h2 z; omega
    · have := h3 (mem_prodL z).2; omega
  | .ch x y, k, p, h => by
    have h1 := x.num_fol k p
    have h2 := y.num_fol (k + x.cnt) p
    unfold Ex.num NT.fol at h
    simp only [Ex.cnt]
    rcases List.mem_append.mp h with z | z
    · have := h1 z; omega
    · have := h2 z; omega
  | .an x, k, p, h => by
    unfold Ex.num NT.fol at h
    rcases List.mem_append.mp h with z | z
    · exact x.num_ends false k p.2 (mem_prodL z).2
    · exact x.num_fol k p z
  | .so x, k, p, h => by
    unfold Ex.num NT.fol at h
    rcases List.mem_append.mp h with z | z
    · exact x.num_ends false k p.2 (mem_prodL z).2
    · exact x.num_fol k p z
  | .mb x, k, p, h => x.num_fol k p h
structure Pl4 where
  p : Nat
  lo : Nat
  hi : Nat
  c : Nat
def Pl4.py (x : Pl4) : PyData := (Ex.pl x.p x.lo x.hi x.c).py
def Pl4.ok (n : Nat) (x : Pl4) : Prop := x.p < n ∧ 1 ≤ x.lo ∧ x.lo ≤ x.hi ∧ x.hi ≤ 16 ∧ x.c < 3
def Ex.plc : Ex → List Pl4
  | .pl p lo hi c => [⟨p, lo, hi, c⟩]
  | .sq a b => a.plc ++ b.plc
  | .ch a b => a.plc ++ b.plc
  | .an a => a.plc
  | .so a => a.plc
  | .mb a => a.plc
theorem Ex.pls_eq : ∀ e : Ex, e.pls = e.plc.map Pl4.py
  | .pl .. => rfl
  | .sq a b => by simp [Ex.pls, Ex.plc, a.pls_eq, b.pls_eq]
  | .ch a b => by simp [Ex.pls, Ex.plc, a.pls_eq, b.pls_eq]
  | .an a => a.pls_eq
  | .so a => a.pls_eq
  | .mb a => a.pls_eq
theorem Ex.plc_ok {n : Nat} : ∀ {d : Nat} {e : Ex}, e.ok n d → ∀ x ∈ e.plc, x.ok n
  | 0, .pl .., h => by
    intro x hx
    rw [List.mem_singleton.mp hx]
    simpa [Ex.ok, Pl4.ok] using h
  | d + 1, .pl .., h => by
    intro x hx
    rw [List.mem_singleton.mp hx]
    simpa [Ex.ok, Pl4.ok] using h
  | d + 1, .sq a b, h => fun x hx => by
    rcases List.mem_append.mp hx with z | z
    · exact Ex.plc_ok h.1 x z
    · exact Ex.plc_ok h.2 x z
  | d + 1, .ch a b, h => fun x hx => by
    rcases List.mem_append.mp hx with z | z
    · exact Ex.plc_ok h.1 x z
    · exact Ex.plc_ok h.2 x z
  | d + 1, .an a, h => Ex.plc_ok (e := a) h
  | d + 1, .so a, h => Ex.plc_ok (e := a) h
  | d + 1, .mb a, h => Ex.plc_ok (e := a) h
  | 0, .sq .., h => by simp [Ex.ok] at h
  | 0, .ch .., h => by simp [Ex.ok] at h
  | 0, .an .., h => by simp [Ex.ok] at h
  | 0, .so .., h => by simp [Ex.ok] at h
  | 0, .mb .., h => by simp [Ex.ok] at h
structure Mv where
  o : Nat
  t : Nat
  p : Nat
  lo : Nat
  hi : Nat
  c : Nat
def Mv.py (x : Mv) : PyData := .tuple [.int x.o, .int x.t, .int x.p, .int x.lo, .int x.hi, .int x.c]
def machP (ends : List Bool) (mvs : List Mv) : PyData := .tuple [.tuple (ends.map .bool), .tuple (mvs.map Mv.py)]
/-- what is known of a machine over n parts -/
structure MachOk (n : Nat) (ends : List Bool) (mvs : List Mv) : Prop where
  e1 : 1 ≤ ends.length
  e2 : ends.length ≤ 1000
  m2 : mvs.length ≤ 10000
  mv : ∀ x ∈ mvs, x.o < ends.length ∧ x.t < ends.length ∧ x.p < n ∧ 1 ≤ x.lo ∧ x.lo ≤ x.hi ∧ x.hi ≤ 16 ∧ x.c < 3
/-! rows of the machine -/
abbrev Row := List Nat × Bool
def rowP (r : Row) : PyData := .list [.list (iLs r.1), .bool r.2]
theorem iLs_eqv : ∀ a b : List Nat, PyData.eqvAll (iLs a) (iLs b) = decide (a = b)
  | [], [] => rfl
  | [], _ :: _ => rfl
  | _ :: _, [] => rfl
  | x :: a, y :: b => by
    have ih := iLs_eqv a b
    have e : PyData.eqvAll (iLs (x :: a)) (iLs (y :: b)) = (((x : Int) == (y : Int)) && PyData.eqvAll (iLs a) (iLs b)) := by simp only [iLs, List.map_cons, PyData.eqvAll, PyData.eqv]
    rw [e, ih, Bool.eq_iff_iff]
    simp only [Bool.and_eq_true, beq_iff_eq, decide_eq_true_eq, List.cons.injEq]
    exact ⟨fun h => ⟨by omega, h.2⟩, fun h => ⟨by omega, h.2⟩⟩
theorem rowP_eqv (a b : Row) : PyData.eqv (rowP a) (rowP b) = decide (a = b) := by
  obtain ⟨a1, a2⟩ := a
  obtain ⟨b1, b2⟩ := b
  have e : PyData.eqv (rowP (a1, a2)) (rowP (b1, b2)) = (PyData.eqvAll (iLs a1) (iLs b1) && ((a2 == b2) && true)) := by simp only [rowP, PyData.eqv, PyData.eqvAll]
  rw [e, iLs_eqv, Bool.eq_iff_iff]
  simp only [Bool.and_eq_true, beq_iff_eq, decide_eq_true_eq, Prod.mk.injEq, and_true]
theorem iLs_lay : ∀ a : List Nat, PyData.canLayAll0 (iLs a) = true ∧ PyData.depthAll (iLs a) ≤ 0
  | [] => by simp [iLs, PyData.canLayAll0, PyData.depthAll]
  | x :: a => by
    have ih := iLs_lay a
    have e1 : PyData.canLayAll0 (iLs (x :: a)) = PyData.canLayAll0 (iLs a) := by simp [iLs, PyData.canLayAll0, PyData.canLay0]
    have e2 : PyData.depthAll (iLs (x :: a)) = max 0 (PyData.depthAll (iLs a)) := by simp [iLs, PyData.depthAll, PyData.depth]
    rw [e1, e2]
    exact ⟨ih.1, by omega⟩
theorem rowP_lay (r : Row) : PyData.canLay0 (rowP r) = true ∧ PyData.depth (rowP r) ≤ 2 := by
  have h := iLs_lay r.1
  constructor
  · simp only [rowP, PyData.canLay0, PyData.canLayAll0, h.1, Bool.and_self]
  · simp only [rowP, PyData.depth, PyData.depthAll]
    omega
theorem rows_lay : ∀ l : List Row, PyData.canLayAll0 (l.map rowP) = true ∧ PyData.depthAll (l.map rowP) ≤ 2
  | [] => by simp [PyData.canLayAll0, PyData.depthAll]
  | r :: l => by
    have h1 := rowP_lay r
    have h2 := rows_lay l
    simp only [List.map_cons, PyData.canLayAll0, PyData.depthAll, h1.1, h2.1, Bool.and_self, true_and]
    omega
theorem shaped_of {d : PyData} {k : Nat} (h1 : PyData.canLay0 d = true) (h2 : PyData.depth d ≤ k) (h3 : k ≤ 64) : SeqAt.shaped d = true := by
  show (PyData.canLay0 d && decide (PyData.depth d ≤ 64)) = true
  rw [Bool.and_eq_true]
  exact ⟨h1, decide_eq_true (by omega)⟩
theorem rowP_sh (r : Row) : SeqAt.shaped (rowP r) = true := shaped_of (rowP_lay r).1 (rowP_lay r).2 (by decide)
theorem rows_sh (l : List Row) : SeqAt.shaped (.list (l.map rowP)) = true := by
  have h := rows_lay l
  refine shaped_of (k := 3) (by simp only [PyData.canLay0]; exact h.1) ?_ (by decide)
  simp only [PyData.depth]
  omega
theorem any_rows (r : Row) (l : List Row) : ((l.map rowP).any fun z => PyData.eqv z (rowP r)) = decide (r ∈ l) := by
  rw [List.any_map, Bool.eq_iff_iff]
  simp only [List.any_eq_true, Function.comp_apply, rowP_eqv, decide_eq_true_eq]
  constructor
  · rintro ⟨a, h, rfl⟩; exact h
  · intro h; exact ⟨r, h, rfl⟩
theorem pD_eqv (a b : Nat × Nat) : PyData.eqv (pD a) (pD b) = decide (a = b) := by
  obtain ⟨a1, a2⟩ := a
  obtain ⟨b1, b2⟩ := b
  have e : PyData.eqv (pD (a1, a2)) (pD (b1, b2)) = (((a1 : Int) == b1) && (((a2 : Int) == b2) && true)) := by simp only [pD, PyData.eqv, PyData.eqvAll]
  rw [e, Bool.eq_iff_iff]
  simp only [Bool.and_eq_true, beq_iff_eq, decide_eq_true_eq, Prod.mk.injEq, and_true]
  omega
theorem pDs_lay : ∀ l : List (Nat × Nat), PyData.canLayAll0 (l.map pD) = true ∧ PyData.depthAll (l.map pD) ≤ 1
  | [] => by simp [PyData.canLayAll0, PyData.depthAll]
  | r :: l => by
    have h2 := pDs_lay l
    have e1 : PyData.canLay0 (pD r) = true := by simp [pD, PyData.canLay0, PyData.canLayAll0]
    have e2 : PyData.depth (pD r) ≤ 1 := by simp [pD, PyData.depth, PyData.depthAll]
    simp only [List.map_cons, PyData.canLayAll0, PyData.depthAll, e1, h2.1, Bool.and_self, true_and]
    omega
theorem pD_sh (r : Nat × Nat) : SeqAt.shaped (pD r) = true := shaped_of (k := 1) (by simp [pD, PyData.canLay0, PyData.canLayAll0]) (by simp [pD, PyData.depth, PyData.depthAll]) (by decide)
theorem pDs_sh (l : List (Nat × Nat)) : SeqAt.shaped (.list (l.map pD)) = true := by
  have h := pDs_lay l
  refine shaped_of (k := 2) (by simp only [PyData.canLay0]; exact h.1) ?_ (by decide)
  simp only [PyData.depth]
  omega
theorem any_pDs (r : Nat × Nat) (l : List (Nat × Nat)) : ((l.map pD).any fun z => PyData.eqv z (pD r)) = decide (r ∈ l) := by
  rw [List.any_map, Bool.eq_iff_iff]
  simp only [List.any_eq_true, Function.comp_apply, pD_eqv, decide_eq_true_eq]
  constructor
  · rintro ⟨a, h, rfl⟩; exact h
  · intro h; exact ⟨r, h, rfl⟩
/-- in a list of data, that changes -/
theorem inL {neg : Bool} {d : PyData} {l : List PyData} {S : Sto} {n : Nat} (h : S[n]? = some (dL l)) (hf : flatD d = false) (h1 : SeqAt.shaped d = true) (h2 : SeqAt.shaped (.list l) = true) : gInA neg (.p d) (.ob n) S = .ok (.bl (neg ^^ l.any fun z => PyData.eqv z d)) S := by
  have vl : vList S (.ob n) = some l := by
    show (match S[n]? with | some (.lst l) => pAll l | some (.fz l) => some l | _ => none) = _
    rw [h]
    exact pAll_map _
  have e0 : dicO S (.ob n) = none := by simp only [dicO, h]
  rw [gInA_of e0]
  have e : gInT neg (.p d) (.ob n) S = gIn neg (.p d) (.ob n) S := rfl
  rw [e]
  have e2 : gIn neg (.p d) (.ob n) S = (match pNow S (.p d), seqP S (.ob n) with
    | some p, some l => if flatD p = true ∧ l.all flatD = true then .ok (.bl (neg ^^ l.any fun z => PyData.eqv z p)) S
        else if (vList S (.ob n)).isSome = true ∧ SeqAt.shaped p = true ∧ SeqAt.shaped (.list l) = true then .ok (.bl (neg ^^ l.any fun z => PyData.eqv z p)) S else .st
    | _, _ => .st) := by
    cases d <;> first | (cases hf; done) | rfl
  have e3 : seqP S (.ob n) = some l := vl
  have e4 : pNow S (.p d) = some d := rfl
  rw [e2]
  simp only [e3, e4, vl, hf, h1, h2, Option.isSome_some, and_self, if_true, Bool.false_eq_true, false_and, if_false]
/-- a number in a list of numbers -/
theorem inN {neg : Bool} {k : Nat} {l : List Nat} {S : Sto} : gInA neg (.p (.int k)) (.p (.list (iLs l))) S = .ok (.bl (neg ^^ decide (k ∈ l))) S := by
  rw [gInA_of dicO_p]
  have e : gInT neg (.p (.int k)) (.p (.list (iLs l))) S = gIn neg (.p (.int k)) (.p (.list (iLs l))) S := rfl
  rw [e]
  have e2 : gIn neg (.p (.int k)) (.p (.list (iLs l))) S = (match pNow S (.p (.int k)), seqP S (.p (.list (iLs l))) with
    | some p, some l' => if flatD p = true ∧ l'.all flatD = true then .ok (.bl (neg ^^ l'.any fun z => PyData.eqv z p)) S
        else if (vList S (.p (.list (iLs l)))).isSome = true ∧ SeqAt.shaped p = true ∧ SeqAt.shaped (.list l') = true then .ok (.bl (neg ^^ l'.any fun z => PyData.eqv z p)) S else .st
    | _, _ => .st) := rfl
  have e3 : seqP S (.p (.list (iLs l))) = some (iLs l) := rfl
  have e4 : pNow S (.p (.int k)) = some (.int k) := rfl
  have fl : (iLs l).all flatD = true := by
    rw [List.all_eq_true]
    intro x hx
    obtain ⟨k, _, rfl⟩ := List.mem_map.mp hx
    rfl
  have fk : flatD (.int k) = true := rfl
  rw [e2]
  simp only [e3, e4, fl, fk, and_self, if_true]
  congr 3
  rw [List.any_map, Bool.eq_iff_iff]
  simp only [List.any_eq_true, Function.comp_apply, PyData.eqv, beq_iff_eq, decide_eq_true_eq]
  constructor
  · rintro ⟨a, h, e⟩
    have : a = k := by omega
    subst this; exact h
  · intro h; exact ⟨k, h, rfl⟩
end My

namespace My
open PySem PySem.Spec PyProof.Rows L2 DL
theorem eLcO_ap {fi : DL.Env → Sto → Rs IDt} {gt : GD} {b : BD} {f : ED} {vs : List Nat} {ρ : DL.Env} {S : Sto} : eLcO fi gt b f vs ρ S = (fi ρ S).bind fun d S1 => okLO (lcL gt b f d.2 (wipeE ρ vs) d.1 [] S1) := rfl
theorem WE_okLO {r : Option (List PyData × Sto)} {Q : D → Sto → Prop} {E : Xc → Sto → Prop} (h : WE (okL r) (fun d S => ∃ l, d = .lst l ∧ Q (.ob S.length) (S ++ [.lst (l.map .p)])) E) : WE (okLO r) Q E := by
  cases r with
  | none => exact h
  | some p =>
    obtain ⟨l, e, q⟩ := h
    cases e
    exact q
section
variable {S T : Sto} {k : Nat} {o : O}
theorem tg : (S ++ T)[S.length + k]? = T[k]? := by
  rw [List.getElem?_append_right (by omega)]
  congr 1
  omega
theorem ts : (S ++ T).set (S.length + k) o = S ++ T.set k o := by
  rw [List.set_append_right _ _ (by omega)]
  congr 2
  omega
theorem tg0 : (S ++ T)[S.length]? = T[0]? := tg (k := 0)
theorem ts0 : (S ++ T).set S.length o = S ++ T.set 0 o := ts (k := 0)
end
/-- the place of a row -/
def ixR (r : Row) : List Row → Nat
  | [] => 0
  | x :: l => if x = r then 0 else ixR r l + 1
theorem ixR_lt {r : Row} : ∀ {l : List Row}, r ∈ l → ixR r l < l.length
  | x :: l, h => by
    unfold ixR
    split
    · simp
    · rename_i n
      have := ixR_lt (l := l) ((List.mem_cons.mp h).resolve_left fun e => n e.symm)
      simp; omega
theorem ixR_app {r : Row} : ∀ {l m : List Row}, r ∈ l → ixR r (l ++ m) = ixR r l
  | x :: l, m, h => by
    show (if x = r then 0 else ixR r (l ++ m) + 1) = (if x = r then 0 else ixR r l + 1)
    split
    · rfl
    · rename_i n
      rw [ixR_app ((List.mem_cons.mp h).resolve_left fun e => n e.symm)]
theorem ixR_find {r : Row} : ∀ {l : List Row}, r ∈ l → (l.map rowP).findIdx? (fun z => PyData.eqv z (rowP r)) = some (ixR r l)
  | x :: l, h => by
    rw [List.map_cons, List.findIdx?_cons, rowP_eqv]
    unfold ixR
    by_cases e : x = r
    · simp [e]
    · rw [decide_eq_false e, if_neg e, ixR_find ((List.mem_cons.mp h).resolve_left fun z => e z.symm)]
      rfl
theorem gIdx_rows {r : Row} {l : List Row} {S : Sto} {n : Nat} (h : S[n]? = some (dL (l.map rowP))) (hr : r ∈ l) : gIdx (.ob n) [.p (rowP r)] S = .ok (.int (ixR r l)) S := by
  have vl : vList S (.ob n) = some (l.map rowP) := by
    show (match S[n]? with | some (.lst l) => pAll l | some (.fz l) => some l | _ => none) = _
    rw [h]
    exact pAll_map _
  have e4 : pNow S (.p (rowP r)) = some (rowP r) := rfl
  unfold gIdx
  simp only [vl, e4]
  rw [if_pos ⟨rows_sh l, rowP_sh r⟩, ixR_find hr]
abbrev bD (l : List Bool) : List PyData := l.map .bool
theorem gToTup_d {l : List PyData} {S : Sto} {n : Nat} (h : S[n]? = some (dL l)) : gToTup [.ob n] S = .ok (.p (.tuple l)) S := by
  have vl : vList S (.ob n) = some l := by
    show (match S[n]? with | some (.lst l) => pAll l | some (.fz l) => some l | _ => none) = _
    rw [h]
    exact pAll_map _
  unfold gToTup
  simp only [vl]
section
variable {S : Sto} {Q : D → Sto → Prop} {E : Xc → Sto → Prop}
abbrev RM (L : Nat) (e : Ex) (v8 v9 v10 v11 v12 v13 v14 : Option D) : DL.Env := [some (.p e.py), some (.ob L), some (.p (e.num 0).py), some (.ob (L + 1)), some (.p (.list (iLs ((e.num 0).ends true)))), some (.ob (L + 2)), some (.ob (L + 3)), some (.ob (L + 4)), v8, v9, v10, v11, v12, v13, v14]
def PRs (e : Ex) : List (Nat × Nat) := (((e.num 0).ends false).map fun b => (0, b)) ++ (e.num 0).fol
theorem PRs_pos {e : Ex} {k b : Nat} (h : (k, b) ∈ PRs e) : 1 ≤ b ∧ b ≤ e.cnt := by
  unfold PRs at h
  rcases List.mem_append.mp h with z | z
  · obtain ⟨b', hb, e1⟩ := List.mem_map.mp z
    cases e1
    have := e.num_ends false 0 b hb
    omega
  · have := e.num_fol 0 (k, b) z
    simp only at this
    omega
/-- the row of a place, the rows so far, the state of a place -/
def rowOf (e : Ex) (k : Nat) : Row := ((List.range (e.cnt + 1)).filter (fun b => decide ((k, b) ∈ PRs e)), if k = 0 then (e.num 0).null else decide (k ∈ (e.num 0).ends true))
def addR (R : List Row) (r : Row) : List Row := if r ∈ R then R else R ++ [r]
def rowsU (e : Ex) : Nat → List Row
  | 0 => []
  | i + 1 => addR (rowsU e i) (rowOf e i)
def stAt (e : Ex) (k : Nat) : Nat := ixR (rowOf e k) (rowsU e (k + 1))
def stsU (e : Ex) (i : Nat) : List Nat := (List.range i).map (stAt e)
theorem mem_addR (R : List Row) (r : Row) : r ∈ addR R r := by
  unfold addR
  split
  · assumption
  · simp
theorem addR_ext (R : List Row) (r : Row) : ∃ T, addR R r = R ++ T := by
  unfold addR
  split
  · exact ⟨[], by simp⟩
  · exact ⟨[r], rfl⟩
theorem rowsU_ext (e : Ex) (i : Nat) : ∀ k, ∃ T, rowsU e (i + k) = rowsU e i ++ T
  | 0 => ⟨[], by simp⟩
  | k + 1 => by
    obtain ⟨T, h⟩ := rowsU_ext e i k
    obtain ⟨U, h2⟩ := addR_ext (rowsU e (i + k)) (rowOf e (i + k))
    refine ⟨T ++ U, ?_⟩
    show addR (rowsU e (i + k)) (rowOf e (i + k)) = _
    rw [h2, h, List.append_assoc]
theorem stAt_of {e : Ex} {k n : Nat} (h : k < n) : stAt e k = ixR (rowOf e k) (rowsU e n) := by
  obtain ⟨T, h2⟩ := rowsU_ext e (k + 1) (n - (k + 1))
  rw [show k + 1 + (n - (k + 1)) = n by omega] at h2
  have hm : rowOf e k ∈ rowsU e (k + 1) := mem_addR _ _
  rw [h2, ixR_app hm]
  rfl
theorem stsU_snoc (e : Ex) (i : Nat) : stsU e (i + 1) = stsU e i ++ [stAt e i] := by simp [stsU, List.range_succ]
/-- what holds of the rows found so far -/
structure MSt (e : Ex) (i : Nat) (R : List Row) (st : List Nat) (en : List Bool) : Prop where
  le : R.length = en.length
  li : R.length ≤ i
  ls : st.length = i
  ss : ∀ s ∈ st, s < R.length
  ne : 0 < i → 0 < R.length
  rb : ∀ r ∈ R, r.1.length ≤ e.cnt + 1 ∧ ∀ b ∈ r.1, 1 ≤ b ∧ b ≤ e.cnt
  er : R = rowsU e i
  es : st = stsU e i
  ee : en = R.map (·.2)
abbrev TM (e : Ex) (R : List Row) (st : List Nat) (en : List Bool) : Sto := [dL (e.plc.map Pl4.py), prO (PRs e), dL (R.map rowP), dL (iLs st), dL (bD en)]
theorem TM_cl {e : Ex} {R : List Row} {st : List Nat} {en : List Bool} (hc : ClS 0 S) : ClS 0 (S ++ TM e R st en) := clS_app hc (clS_cons clO_p (clS_cons clO_p (clS_cons clO_p (clS_cons clO_p (clS_one clO_p)))))
end
end My

namespace My
open PySem PySem.Spec PyProof.Rows L2 DL
section
variable {S : Sto} {Q : D → Sto → Prop} {E : Xc → Sto → Prop}
theorem mvs_snoc {l : List Mv} {x : Mv} : O.lst ((l.map fun m => D.p m.py) ++ [D.p x.py]) = dL ((l ++ [x]).map Mv.py) := by simp [dL]
/-- the move from a state to a place; the moves of a machine -/
def mvAt (e : Ex) (i b : Nat) : Mv := ⟨i, stAt e b, (e.plc.getD (b - 1) ⟨0, 0, 0, 0⟩).p, (e.plc.getD (b - 1) ⟨0, 0, 0, 0⟩).lo, (e.plc.getD (b - 1) ⟨0, 0, 0, 0⟩).hi, (e.plc.getD (b - 1) ⟨0, 0, 0, 0⟩).c⟩
def mvRow (e : Ex) (R : List Row) (i : Nat) : List Mv := (R.getD i ([], false)).1.map (mvAt e i)
def mvsU (e : Ex) (R : List Row) (i : Nat) : List Mv := (List.range i).flatMap (mvRow e R)
def machE (e : Ex) : List Bool := (rowsU e (e.cnt + 1)).map (·.2)
def machM (e : Ex) : List Mv := mvsU e (rowsU e (e.cnt + 1)) (rowsU e (e.cnt + 1)).length
theorem mach_moves {e : Ex} {np dp : Nat} {R : List Row} {st : List Nat} {en : List Bool} {v8 v10 v11 v12 v14 : Option D} (he : e.ok np dp) (hn : e.cnt ≤ 8) (hc : ClS 0 S) (M : MSt e (e.cnt + 1) R st en) :
    WS (forL (gNm 10) (sFor (iLst (eBin gIx (eBin gIx (eVar 5) (eVar 10)) (eC (.int 0)))) (gNm 13) (sSeq (sSet 14 (eBin gIx (eVar 1) (eBin gSub (eVar 13) (eC (.int 1))))) (sExpr (eMth gApp (eVar 9) (aCons (eTup (aCons (eVar 10) (aCons (eBin gIx (eVar 6) (eVar 13)) (aCons (eBin gIx (eVar 14) (eC (.int 1))) (aCons (eBin gIx (eVar 14) (eC (.int 2))) (aCons (eBin gIx (eVar 14) (eC (.int 3))) (aCons (eBin gIx (eVar 14) (eC (.int 4))) (aNil)))))))) (aNil)))))) (fun _ => True) (rngL 0 R.length) (RM S.length e v8 (some (.ob (S.length + 5))) v10 v11 v12 none v14) (S ++ (TM e R st en ++ [dL []])))
      (Qn fun ρ S' => ∃ (mvs : List Mv) (v10 v13 v14 : Option D), (mvs = mvsU e R R.length ∧ mvs.length ≤ 10000 ∧ ∀ x ∈ mvs, Mv.o x < R.length ∧ x.t < R.length ∧ x.p < np ∧ 1 ≤ x.lo ∧ x.lo ≤ x.hi ∧ x.hi ≤ 16 ∧ x.c < 3) ∧ S' = S ++ (TM e R st en ++ [dL (mvs.map Mv.py)]) ∧ ρ = RM S.length e v8 (some (.ob (S.length + 5))) v10 v11 v12 v13 v14) := by
  have hlp : e.plc.length = e.cnt := by
    have := e.pls_len
    rw [e.pls_eq, List.length_map] at this
    exact this
  have hli := M.li
  have hls := M.ls
  refine WS_for (fun i ρ S' => ∃ (mvs : List Mv) (v10 v13 v14 : Option D), (mvs = mvsU e R i ∧ mvs.length ≤ i * 10 ∧ ∀ x ∈ mvs, Mv.o x < R.length ∧ x.t < R.length ∧ x.p < np ∧ 1 ≤ x.lo ∧ x.lo ≤ x.hi ∧ x.hi ≤ 16 ∧ x.c < 3) ∧ S' = S ++ (TM e R st en ++ [dL (mvs.map Mv.py)]) ∧ ρ = RM S.length e v8 (some (.ob (S.length + 5))) v10 v11 v12 v13 v14) _ 0 _ _ ⟨[], _, _, _, ⟨by simp [mvsU], by simp, fun _ z => by cases z⟩, rfl, rfl⟩ ?_ ?_
  · rintro i d ρ S' hd ⟨mvs, v10, v13, v14, ⟨hme, hml, hmv⟩, rfl, rfl⟩
    obtain ⟨hi, rfl⟩ := rngL_get hd
    have er : R[i]? = some R[i] := List.getElem?_eq_getElem hi
    have hrb := M.rb _ (List.getElem_mem hi)
    generalize R[i] = r at er hrb
    obtain ⟨hrl, hrb⟩ := hrb
    have gr : ∀ S : Sto, gIx (.p (rowP r)) (.p (.int 0)) S = .ok (.p (.list (iLs r.1))) S := fun S => rfl
    simp -implicitDefEqProofs only [DL.wpW, reduceIte, Nat.reduceAdd, Nat.reduceLeDiff, DL.sFor_ap, Int.zero_add, tg, List.getElem?_map, er, gr, List.cons_append, List.nil_append]
    refine WS_for (fun j ρ S' => ∃ (mvs : List Mv) (v13 v14 : Option D), (mvs = mvsU e R i ++ (r.1.take j).map (mvAt e i) ∧ mvs.length ≤ i * 10 + j ∧ ∀ x ∈ mvs, Mv.o x < R.length ∧ x.t < R.length ∧ x.p < np ∧ 1 ≤ x.lo ∧ x.lo ≤ x.hi ∧ x.hi ≤ 16 ∧ x.c < 3) ∧ S' = S ++ (TM e R st en ++ [dL (mvs.map Mv.py)]) ∧ ρ = RM S.length e v8 (some (.ob (S.length + 5))) (some (.int (i : Nat))) v11 v12 v13 v14) _ 0 _ _ ⟨mvs, _, _, ⟨by rw [hme, Nat.zero_add]; simp, by omega, hmv⟩, rfl, rfl⟩ ?_ ?_
    · rintro j d ρ S' hd ⟨mvs, v13, v14, ⟨hme, hml, hmv⟩, rfl, rfl⟩
      rw [List.map_map, List.getElem?_map] at hd
      cases eb : r.1[j]? with
      | none => rw [eb] at hd; cases hd
      | some b =>
        rw [eb] at hd
        cases hd
        have hj : j < r.1.length := (List.getElem?_eq_some_iff.mp eb).1
        have hb := hrb b (List.mem_of_getElem? eb)
        have hbp : b - 1 < e.plc.length := by omega
        have ep : e.plc[b - 1]? = some e.plc[b - 1] := List.getElem?_eq_getElem hbp
        have epd : e.plc.getD (b - 1) ⟨0, 0, 0, 0⟩ = e.plc[b - 1] := by rw [List.getD_eq_getElem?_getD, ep]; rfl
        have hpo := e.plc_ok he _ (List.getElem_mem hbp)
        generalize e.plc[b - 1] = pl at ep epd hpo
        have hbs : b < st.length := by omega
        have es : st[b]? = some st[b] := List.getElem?_eq_getElem hbs
        have hst := M.ss _ (List.getElem_mem hbs)
        have hss : stAt e b = st[b] := by
          have z := M.es
          have z2 : (stsU e (e.cnt + 1))[b]? = some (stAt e b) := by
            unfold stsU
            rw [List.getElem?_map, List.getElem?_range (by omega)]; rfl
          rw [← z, es] at z2
          exact (Option.some.inj z2).symm
        generalize st[b] = s at es hst hss
        have eb1 : (b : Int) - 1 = ((b - 1 : Nat) : Int) := by omega
        have hL : mvs.length < 16777216 := by omega
        have p1 : ∀ S : Sto, gIx (.p pl.py) (.p (.int 1)) S = .ok (.p (.int pl.p)) S := fun S => rfl
        have p2 : ∀ S : Sto, gIx (.p pl.py) (.p (.int 2)) S = .ok (.p (.int pl.lo)) S := fun S => rfl
        have p3 : ∀ S : Sto, gIx (.p pl.py) (.p (.int 3)) S = .ok (.p (.int pl.hi)) S := fun S => rfl
        have p4 : ∀ S : Sto, gIx (.p pl.py) (.p (.int 4)) S = .ok (.p (.int pl.c)) S := fun S => rfl
        simp -implicitDefEqProofs only [DL.wpW, reduceIte, Nat.reduceAdd, Nat.reduceLeDiff, DL.sFor_ap, Function.comp_apply, tg, tg0, List.getElem?_map, eb1, ep, es, p1, p2, p3, p4, List.cons_append, List.nil_append, List.length_map, hL, ts, dL_snoc]
        refine ⟨by trivial, mvs ++ [⟨i, s, pl.p, pl.lo, pl.hi, pl.c⟩], _, _, ⟨?_, by simp; omega, fun x hx => ?_⟩, by simp [TM, Mv.py], rfl⟩
        · rw [hme, Nat.zero_add, List.take_succ, eb, List.append_assoc]
          simp [mvAt, hss, ep]
        rcases List.mem_append.mp hx with z | z
        · exact hmv x z
        · rw [List.mem_singleton.mp z]
          exact ⟨hi, hst, hpo.1, hpo.2.1, hpo.2.2.1, hpo.2.2.2.1, hpo.2.2.2.2⟩
    · rintro ρ S' ⟨mvs, v13, v14, ⟨hme, hml, hmv⟩, rfl, rfl⟩
      rw [List.length_map, List.length_map] at hml hme
      refine ⟨by trivial, mvs, _, _, _, ⟨?_, by omega, hmv⟩, rfl, rfl⟩
      rw [hme, Nat.zero_add, Nat.zero_add, List.take_length]
      unfold mvsU
      rw [List.range_succ, List.flatMap_append]
      simp [mvRow, er]
  · rintro ρ S' ⟨mvs, v10, v13, v14, ⟨hme, hml, hmv⟩, rfl, rfl⟩
    rw [rngL_length] at hml hme
    exact ⟨mvs, _, _, _, ⟨by rw [hme, Nat.zero_add], by omega, hmv⟩, rfl, rfl⟩
end
end My

namespace My
open PySem PySem.Spec PyProof.Rows L2 DL
/-! ### the machines of all parts -/
theorem PsOk.at {wide strips : Nat} {Ps : List Pt} (h : PsOk wide strips Ps) : ∃ lc, 2 ≤ lc ∧ lc ≤ 4 ∧ Ps.length = lc + strips ∧ (∀ (i : Nat) (pt : Pt), Ps[i]? = some pt → i < lc → pt.leaf wide) ∧ ∀ (i : Nat) (pt : Pt), Ps[i]? = some pt → lc ≤ i → stripAt i pt := by
  obtain ⟨L, T, rfl, h1, h2, h3, h4, h5⟩ := h.ex
  refine ⟨L.length, h1, h2, by rw [List.length_append, h4], fun i pt e hi => ?_, fun i pt e hi => ?_⟩
  · rw [List.getElem?_append_left hi] at e
    exact h3 _ (List.mem_of_getElem? e)
  · rw [List.getElem?_append_right hi] at e
    have := h5 _ _ e
    rw [show L.length + (i - L.length) = i by omega] at this
    exact this
abbrev Wy := Option (List Bool × List Mv)
def wayP : Wy → PyData
  | none => .tuple []
  | some (e, m) => machP e m
/-- each part with its machine -/
def WayAt (i : Nat) (pt : Pt) (w : Wy) : Prop := match pt with
  | .strip _ _ _ _ => ∃ ends mvs, w = some (ends, mvs) ∧ MachOk i ends mvs
  | _ => w = none
def wayOf : Pt → Wy
  | .strip _ _ _ e => some (machE e, machM e)
  | _ => none
structure WaysOk (Ps : List Pt) (Ws : List Wy) : Prop where
  ex : Ws = Ps.map wayOf
  len : Ws.length = Ps.length
  at_ : ∀ (i : Nat) (pt : Pt) (w : Wy), Ps[i]? = some pt → Ws[i]? = some w → WayAt i pt w
section
variable {S : Sto} {Q : D → Sto → Prop} {E : Xc → Sto → Prop}
theorem x1 : ([PyData.str "across", PyData.str "down"].any fun z => PyData.eqv z (.str "plain")) = false := by decide +kernel
theorem x2 : ([PyData.str "across", PyData.str "down"].any fun z => PyData.eqv z (.str "shape")) = false := by decide +kernel
theorem x3 (ac : Bool) : ([PyData.str "across", PyData.str "down"].any fun z => PyData.eqv z (.str (dirS ac))) = true := by cases ac <;> decide +kernel
theorem x4 : SeqAt.shaped (.str "plain") = true := by decide +kernel
theorem x5 : SeqAt.shaped (.str "shape") = true := by decide +kernel
theorem x6 (ac : Bool) : SeqAt.shaped (.str (dirS ac)) = true := by cases ac <;> decide +kernel
theorem x7 : SeqAt.shaped (.tuple [.str "across", .str "down"]) = true := by decide +kernel
theorem gToTup_l {l : List PyData} {S : Sto} : gToTup [.p (.list l)] S = .ok (.p (.tuple l)) S := by
  have vl : vList S (.p (.list l)) = some l := rfl
  unfold gToTup
  simp only [vl]
end
/-! ### readings in their order -/
inductive Rd where
  | lf
  | nd (n s : Nat) (inner rest : Rd)
deriving DecidableEq
def Rd.items : Rd → List PyData
  | .lf => []
  | .nd n s i r => .tuple [.int n, .int s, .tuple i.items] :: r.items
def Rd.py (r : Rd) : PyData := .tuple r.items
def Rd.lt : Rd → Rd → Bool
  | .lf, .lf => false
  | .lf, .nd .. => true
  | .nd .., .lf => false
  | .nd n s i r, .nd n' s' i' r' => if n = n' then (if s = s' then (if i = i' then r.lt r' else i.lt i') else decide (s < s')) else decide (n < n')
def Rd.dep : Rd → Nat
  | .lf => 0
  | .nd _ _ i r => max (i.dep + 1) r.dep
open PySem.W in
theorem Rd.alike : ∀ a b : Rd, PySem.W.alikeAll a.items b.items = true
  | .lf, b => by simp only [Rd.items]; cases b.items <;> simp [PySem.W.alikeAll]
  | .nd n s i r, .lf => by simp [Rd.items, PySem.W.alikeAll]
  | .nd n s i r, .nd n' s' i' r' => by
    have h1 := i.alike i'
    have h2 := r.alike r'
    simp only [Rd.items, PySem.W.alikeAll, PySem.W.alike, h1, h2, Bool.and_self]
theorem Rd.eqv : ∀ a b : Rd, PyData.eqvAll a.items b.items = decide (a = b)
  | .lf, .lf => by simp [Rd.items, PyData.eqvAll]
  | .lf, .nd .. => by simp [Rd.items, PyData.eqvAll]
  | .nd .., .lf => by simp [Rd.items, PyData.eqvAll]
  | .nd n s i r, .nd n' s' i' r' => by
    have h1 := i.eqv i'
    have h2 := r.eqv r'
    simp only [Rd.items, PyData.eqvAll, PyData.eqv, h1, h2]
    rw [Bool.eq_iff_iff]
    simp only [Bool.and_eq_true, beq_iff_eq, decide_eq_true_eq, Rd.nd.injEq, and_true]
    exact ⟨fun ⟨⟨a, b, c⟩, d⟩ => ⟨by omega, by omega, c, d⟩, fun ⟨a, b, c, d⟩ => ⟨⟨by omega, by omega, c⟩, d⟩⟩
theorem Rd.data : ∀ a b : Rd, PyProof.Rows.lexLt PyProof.Rows.itemOrd (PySem.W.keyToksAll a.items) (PySem.W.keyToksAll b.items) = a.lt b
  | .lf, .lf => by simp only [Rd.items, Rd.lt]; decide +kernel
  | .lf, .nd n s i r => by
    simp only [Rd.items, PySem.W.keyToksAll, Rd.lt]
    rw [PySem.W.lex_atom (by decide)]
    decide +kernel
  | .nd n s i r, .lf => by
    simp only [Rd.items, PySem.W.keyToksAll, Rd.lt]
    rw [PySem.W.lex_atom (by decide)]
    decide +kernel
  | .nd n s i r, .nd n' s' i' r' => by
    have h1 := i.data i'
    have h2 := r.data r'
    have e1 := i.eqv i'
    have a1 := i.alike i'
    have al : PySem.W.alike (.tuple [.int n, .int s, .tuple i.items]) (.tuple [.int n', .int s', .tuple i'.items]) = true := by
      simp only [PySem.W.alike, PySem.W.alikeAll, a1, Bool.and_self]
    have ev : PyData.eqv (.tuple [.int n, .int s, .tuple i.items]) (.tuple [.int n', .int s', .tuple i'.items]) = decide (n = n' ∧ s = s' ∧ i = i') := by
      simp only [PyData.eqv, PyData.eqvAll, e1]
      rw [Bool.eq_iff_iff]
      simp only [Bool.and_eq_true, beq_iff_eq, decide_eq_true_eq, and_true]
      exact ⟨fun ⟨a, b, c⟩ => ⟨by omega, by omega, c⟩, fun ⟨a, b, c⟩ => ⟨by omega, by omega, c⟩⟩
    simp only [Rd.items, Rd.lt]
    by_cases hn : n = n'
    · subst hn
      by_cases hs : s = s'
      · subst hs
        by_cases hi : i = i'
        · subst hi
          rw [PySem.W.dataLt_all_yes al (by rw [ev]; simp), h2]
          simp
        · rw [PySem.W.dataLt_all_no al (by rw [ev]; simp [hi]), PySem.W.dataLt_tuple]
          rw [PySem.W.dataLt_all_yes (by simp [PySem.W.alike]) (by simp [PyData.eqv]), PySem.W.dataLt_all_yes (by simp [PySem.W.alike]) (by simp [PyData.eqv])]
          rw [PySem.W.dataLt_all_no (by simp only [PySem.W.alike]; exact a1) (by simp only [PyData.eqv]; rw [e1]; simp [hi]), PySem.W.dataLt_tuple, h1]
          simp [hi]
      · rw [PySem.W.dataLt_all_no al (by rw [ev]; simp [hs]), PySem.W.dataLt_tuple]
        rw [PySem.W.dataLt_all_yes (by simp [PySem.W.alike]) (by simp [PyData.eqv]), PySem.W.dataLt_all_no (by simp [PySem.W.alike]) (by simp [PyData.eqv]; omega), PySem.W.dataLt_int]
        simp [hs]
    · rw [PySem.W.dataLt_all_no al (by rw [ev]; simp [hn]), PySem.W.dataLt_tuple]
      rw [PySem.W.dataLt_all_no (by simp [PySem.W.alike]) (by simp [PyData.eqv]; omega), PySem.W.dataLt_int]
      simp [hn]
theorem Rd.depth : ∀ a : Rd, PyData.depthAll a.items ≤ 2 * a.dep
  | .lf => by simp [Rd.items, PyData.depthAll]
  | .nd n s i r => by
    have h1 := i.depth
    have h2 := r.depth
    simp only [Rd.items, PyData.depthAll, PyData.depth, Rd.dep]
    omega
theorem gLtA_rd {a b : Rd} {S : Sto} (h : a.dep ≤ 20) : gLtA (.p a.py) (.p b.py) S = .ok (.bl (a.lt b)) S := by
  have e : gLtA (.p a.py) (.p b.py) S = if PySem.W.alike (.tuple a.items) (.tuple b.items) = true ∧ (PyData.tuple a.items).depth ≤ 64 then .ok (.bl (PySem.W.dataLt (.tuple a.items) (.tuple b.items))) S else .st := rfl
  have hd := a.depth
  rw [e, if_pos ⟨by simp only [PySem.W.alike]; exact a.alike b, by simp only [PyData.depth]; omega⟩, PySem.W.dataLt_tuple, Rd.data]
theorem Rd.lt_irrefl : ∀ a : Rd, a.lt a = false
  | .lf => rfl
  | .nd n s i r => by
    have := r.lt_irrefl
    simp [Rd.lt, this]
theorem Rd.lt_asymm : ∀ a b : Rd, a.lt b = true → b.lt a = false
  | .lf, .lf, h => by simp [Rd.lt] at h
  | .lf, .nd .., h => rfl
  | .nd .., .lf, h => by simp [Rd.lt] at h
  | .nd n s i r, .nd n' s' i' r', h => by
    have h1 := i.lt_asymm i'
    have h2 := r.lt_asymm r'
    unfold Rd.lt at h ⊢
    by_cases hn : n = n'
    · subst hn
      by_cases hs : s = s'
      · subst hs
        by_cases hi : i = i'
        · subst hi
          simp only [if_true] at h ⊢
          exact h2 h
        · simp only [if_true, hi, if_false] at h
          simp only [if_true, fun z : i' = i => hi z.symm, if_false]
          rw [if_neg (fun z : i' = i => hi z.symm)]
          exact h1 h
      · simp only [if_true, hs, if_false, decide_eq_true_eq] at h
        rw [if_pos rfl, if_neg (fun z => hs z.symm)]
        simp only [decide_eq_false_iff_not]
        omega
    · simp only [hn, if_false, decide_eq_true_eq] at h
      rw [if_neg (fun z => hn z.symm)]
      simp only [decide_eq_false_iff_not]
      omega
end My

namespace My
open PySem PySem.Spec PyProof.Rows L2 DL
theorem nodup_le {α : Type} [DecidableEq α] : ∀ {l m : List α}, l.Nodup → (∀ x ∈ l, x ∈ m) → l.length ≤ m.length
  | [], m, _, _ => Nat.zero_le _
  | a :: l, m, h, hs => by
    have h1 := List.nodup_cons.mp h
    have ha := hs a List.mem_cons_self
    have ih := nodup_le (m := m.erase a) h1.2 fun x hx => by
      have hne : x ≠ a := fun e => h1.1 (e ▸ hx)
      exact (List.mem_erase_of_ne hne).mpr (hs x (List.mem_cons_of_mem _ hx))
    rw [List.length_erase_of_mem ha] at ih
    have : 0 < m.length := List.length_pos_of_mem ha
    rw [List.length_cons]
    omega
/-! ### regions -/
structure Rg where
  p : Nat
  x : Nat
  y : Nat
  w : Nat
  h : Nat
deriving DecidableEq
def Rg.py (r : Rg) : PyData := .tuple [.int r.p, .int r.x, .int r.y, .int r.w, .int r.h]
def Rg.key (r : Rg) : List Key := [.inl r.p, .inl r.x, .inl r.y, .inl r.w, .inl r.h]
theorem Rg.key_eq (r : Rg) : keyD (.p r.py) = some r.key := rfl
theorem Rg.key_inj {a b : Rg} (h : a.key = b.key) : a = b := by
  obtain ⟨p, x, y, w, z⟩ := a
  obtain ⟨p', x', y', w', z'⟩ := b
  simp only [Rg.key, List.cons.injEq, Sum.inl.injEq, and_true] at h
  simp only [Rg.mk.injEq]
  omega
theorem gr0 {r : Rg} {S : Sto} : gIx (.p r.py) (.p (.int 0)) S = .ok (.p (.int r.p)) S := rfl
theorem gr1 {r : Rg} {S : Sto} : gIx (.p r.py) (.p (.int 1)) S = .ok (.p (.int r.x)) S := rfl
theorem gr2 {r : Rg} {S : Sto} : gIx (.p r.py) (.p (.int 2)) S = .ok (.p (.int r.y)) S := rfl
theorem gr3 {r : Rg} {S : Sto} : gIx (.p r.py) (.p (.int 3)) S = .ok (.p (.int r.w)) S := rfl
theorem gr4 {r : Rg} {S : Sto} : gIx (.p r.py) (.p (.int 4)) S = .ok (.p (.int r.h)) S := rfl
def Rg.ext (ac : Bool) (r : Rg) : Nat := if ac = true then r.w else r.h
def Rg.piece (ac : Bool) (r : Rg) (p off size : Nat) : Rg := if ac = true then ⟨p, r.x + off, r.y, size, r.h⟩ else ⟨p, r.x, r.y + off, r.w, size⟩
def Pt.isStrip : Pt → Bool
  | .strip _ _ _ _ => true
  | _ => false
theorem u1 : (Str.ofString "plain" == Str.ofString "across") = false := by decide +kernel
theorem u2 : (Str.ofString "plain" == Str.ofString "down") = false := by decide +kernel
theorem u3 : (Str.ofString "shape" == Str.ofString "across") = false := by decide +kernel
theorem u4 : (Str.ofString "shape" == Str.ofString "down") = false := by decide +kernel
section
variable {S : Sto} {n m : Nat} {Q : D → Sto → Prop} {E : Xc → Sto → Prop}
theorem lawstrip_wp {pt : Pt} (hc : ClS 0 S) (q : Q (.bl pt.isStrip) S) : WE (G_law_strip [.p pt.py] S) Q E := by
  refine WE_gB ?_
  rw [show start0 NN_law_strip [.p pt.py] = [some (.p pt.py)] from rfl]
  unfold B_law_strip
  cases pt with
  | plain nm lab c k =>
    simp -implicitDefEqProofs only [DL.wpW, reduceIte, Nat.reduceAdd, Nat.reduceLeDiff, DL.sFor_ap, Pt.py, u1, u2]
    exact WE_pick rfl hc q
  | shape nm lab c w h rows =>
    simp -implicitDefEqProofs only [DL.wpW, reduceIte, Nat.reduceAdd, Nat.reduceLeDiff, DL.sFor_ap, Pt.py, u3, u4]
    exact WE_pick rfl hc q
  | strip ac nm j e =>
    cases ac with
    | true =>
      simp -implicitDefEqProofs only [DL.wpW, reduceIte, Nat.reduceAdd, Nat.reduceLeDiff, DL.sFor_ap, Pt.py, dirS, beq_self_eq_true]
      exact WE_pick rfl hc q
    | false =>
      have da : (Str.ofString "down" == Str.ofString "across") = false := by decide +kernel
      simp -implicitDefEqProofs only [DL.wpW, reduceIte, Nat.reduceAdd, Nat.reduceLeDiff, DL.sFor_ap, Pt.py, dirS, da, beq_self_eq_true]
      exact WE_pick rfl hc q
theorem ext_wp {ac : Bool} {nm j : Str} {e : Ex} {r : Rg} (hc : ClS 0 S) (q : Q (.p (.int (r.ext ac))) S) : WE (G_law_extent [.p (Pt.strip ac nm j e).py, .p r.py] S) Q E := by
  refine WE_gB ?_
  rw [show start0 NN_law_extent [.p (Pt.strip ac nm j e).py, .p r.py] = [some (.p (Pt.strip ac nm j e).py), some (.p r.py)] from rfl]
  unfold B_law_extent
  cases ac with
  | true =>
    simp -implicitDefEqProofs only [DL.wpW, reduceIte, Nat.reduceAdd, Nat.reduceLeDiff, DL.sFor_ap, Pt.py, dirS, beq_self_eq_true, gr3]
    exact WE_pick rfl hc q
  | false =>
    simp -implicitDefEqProofs only [DL.wpW, reduceIte, Nat.reduceAdd, Nat.reduceLeDiff, DL.sFor_ap, Pt.py, dirS, s4, gr4]
    exact WE_pick rfl hc q
theorem piece_wp {ac : Bool} {nm j : Str} {e : Ex} {r : Rg} {p off size : Nat} (hc : ClS 0 S) (q : Q (.p (r.piece ac p off size).py) S) : WE (G_law_piece [.p (Pt.strip ac nm j e).py, .p r.py, .int p, .int off, .int size] S) Q E := by
  refine WE_gB ?_
  rw [show start0 NN_law_piece [.p (Pt.strip ac nm j e).py, .p r.py, .int p, .int off, .int size] = [some (.p (Pt.strip ac nm j e).py), some (.p r.py), some (.int p), some (.int off), some (.int size)] from rfl]
  unfold B_law_piece
  cases ac with
  | true =>
    simp -implicitDefEqProofs only [DL.wpW, reduceIte, Nat.reduceAdd, Nat.reduceLeDiff, DL.sFor_ap, Pt.py, dirS, beq_self_eq_true, gr1, gr2, gr4]
    exact WE_pick rfl hc (by simpa [Rg.piece, Rg.py] using q)
  | false =>
    simp -implicitDefEqProofs only [DL.wpW, reduceIte, Nat.reduceAdd, Nat.reduceLeDiff, DL.sFor_ap, Pt.py, dirS, s4, gr1, gr2, gr3]
    exact WE_pick rfl hc (by simpa [Rg.piece, Rg.py] using q)
end
/-! ### what fills -/
def WhM (pt : Option Pt) (r : Rg) (isLf sub : Prop) : Prop := match pt with
  | some (.plain ..) => isLf
  | some (.shape _ _ _ w h _) => isLf ∧ r.w = w ∧ r.h = h
  | some (.strip ..) => sub
  | none => False
/-- a row of pieces from a state and an offset on -/
def Rt (Ps : List Pt) (Ws : List Wy) : Rd → Rg → Nat → Nat → Prop
  | .lf, r, s, o => ∃ ac nm jn ee ends mvs, Ps[r.p]? = some (.strip ac nm jn ee) ∧ Ws[r.p]? = some (some (ends, mvs)) ∧ o = r.ext ac ∧ ends[s]? = some true
  | .nd n z i q, r, s, o => ∃ ac nm jn ee ends mvs, ∃ mv : Mv, Ps[r.p]? = some (.strip ac nm jn ee) ∧ Ws[r.p]? = some (some (ends, mvs)) ∧ mvs[n]? = some mv ∧ mv.o = s ∧ mv.lo ≤ z ∧ z ≤ mv.hi ∧ o + z ≤ r.ext ac ∧
      WhM Ps[mv.p]? (r.piece ac mv.p o z) (i = .lf) (Rt Ps Ws i (r.piece ac mv.p o z) 0 0) ∧ Rt Ps Ws q r mv.t (o + z)
/-- a reading of a region -/
abbrev WhP (Ps : List Pt) (Ws : List Wy) (r : Rg) : Rd → Prop := fun x => WhM Ps[r.p]? r (x = .lf) (Rt Ps Ws x r 0 0)
abbrev RtP (Ps : List Pt) (Ws : List Wy) (r : Rg) (s o : Nat) : Rd → Prop := fun x => Rt Ps Ws x r s o
theorem piece_p {ac : Bool} {r : Rg} {p o z : Nat} : (r.piece ac p o z).p = p := by unfold Rg.piece; split <;> rfl
section
variable {Ps : List Pt} {Ws : List Wy} {r : Rg} {ac : Bool} {nm jn : Str} {ee : Ex} {ends : List Bool} {mvs : List Mv}
theorem Rt_lf (hpi : Ps[r.p]? = some (.strip ac nm jn ee)) (hwi : Ws[r.p]? = some (some (ends, mvs))) {s o : Nat} : Rt Ps Ws .lf r s o ↔ o = r.ext ac ∧ ends[s]? = some true := by
  constructor
  · rintro ⟨ac', nm', jn', ee', ends', mvs', h1, h2, h3⟩
    rw [hpi] at h1; cases h1
    rw [hwi] at h2; cases h2
    exact h3
  · intro h; exact ⟨ac, nm, jn, ee, ends, mvs, hpi, hwi, h⟩
theorem Rt_nd (hpi : Ps[r.p]? = some (.strip ac nm jn ee)) (hwi : Ws[r.p]? = some (some (ends, mvs))) {n z s o : Nat} {i q : Rd} : Rt Ps Ws (.nd n z i q) r s o ↔
    ∃ mv : Mv, mvs[n]? = some mv ∧ mv.o = s ∧ mv.lo ≤ z ∧ z ≤ mv.hi ∧ o + z ≤ r.ext ac ∧ WhP Ps Ws (r.piece ac mv.p o z) i ∧ Rt Ps Ws q r mv.t (o + z) := by
  constructor
  · rintro ⟨ac', nm', jn', ee', ends', mvs', mv, h1, h2, h3, h4, h5, h6, h7, h8, h9⟩
    rw [hpi] at h1; cases h1
    rw [hwi] at h2; cases h2
    exact ⟨mv, h3, h4, h5, h6, h7, by rw [WhP, piece_p]; exact h8, h9⟩
  · rintro ⟨mv, h3, h4, h5, h6, h7, h8, h9⟩
    rw [WhP, piece_p] at h8
    exact ⟨ac, nm, jn, ee, ends, mvs, mv, hpi, hwi, h3, h4, h5, h6, h7, h8, h9⟩
end
/-! ### lists of readings -/
def Rd.len : Rd → Nat
  | .lf => 0
  | .nd _ _ _ r => r.len + 1
theorem Rd.items_len : ∀ r : Rd, r.items.length = r.len
  | .lf => rfl
  | .nd _ _ _ r => by simp [Rd.items, Rd.len, r.items_len]
abbrev Srt (l : List Rd) : Prop := l.Pairwise fun a b => a.lt b = true
/-- a list of readings in their order: all of a kind, as far as the limit allows -/
structure LOk (lim dep ln : Nat) (Pr : Rd → Prop) (l : List Rd) : Prop where
  srt : Srt l
  len : l.length ≤ lim + 1
  dep : ∀ r ∈ l, Rd.dep r ≤ dep
  ln : ∀ r ∈ l, Rd.len r ≤ ln
  pr : ∀ r ∈ l, Pr r
  all : l.length ≤ lim → ∀ r, Pr r → r ∈ l
theorem LOk.to {lim dep ln : Nat} {Pr Pr' : Rd → Prop} {l : List Rd} (h : LOk lim dep ln Pr l) (h1 : ∀ x, Pr x → Pr' x) (h2 : l.length ≤ lim → ∀ x, Pr' x → Pr x) : LOk lim dep ln Pr' l :=
  ⟨h.srt, h.len, h.dep, h.ln, fun r hr => h1 r (h.pr r hr), fun hl r hr => h.all hl r (h2 hl r hr)⟩
theorem LOk.wide {lim dep dep' ln ln' : Nat} {Pr : Rd → Prop} {l : List Rd} (h : LOk lim dep ln Pr l) (h1 : dep ≤ dep') (h2 : ln ≤ ln') : LOk lim dep' ln' Pr l :=
  ⟨h.srt, h.len, fun r hr => Nat.le_trans (h.dep r hr) h1, fun r hr => Nat.le_trans (h.ln r hr) h2, h.pr, h.all⟩
abbrev rdL (l : List Rd) : PyData := .list (l.map Rd.py)
abbrev rdO (l : List Rd) : O := dL (l.map Rd.py)
def prodR (n s : Nat) (I R : List Rd) : List Rd := I.flatMap fun i => R.map fun r => .nd n s i r
theorem prodR_srt {n s : Nat} {I R : List Rd} (hI : Srt I) (hR : Srt R) : Srt (prodR n s I R) := by
  induction I with
  | nil => exact List.Pairwise.nil
  | cons i I ih =>
    have h1 := List.pairwise_cons.mp hI
    show Srt ((R.map fun r => Rd.nd n s i r) ++ prodR n s I R)
    refine List.pairwise_append.mpr ⟨List.pairwise_map.mpr (hR.imp fun {a b} h => by simp [Rd.lt, h]), ih h1.2, fun a ha b hb => ?_⟩
    obtain ⟨r, _, rfl⟩ := List.mem_map.mp ha
    obtain ⟨i', hi', hb⟩ := List.mem_flatMap.mp hb
    obtain ⟨r', _, rfl⟩ := List.mem_map.mp hb
    have hlt := h1.1 i' hi'
    have hne : i ≠ i' := fun z => by subst z; rw [Rd.lt_irrefl] at hlt; cases hlt
    simp [Rd.lt, hne, hlt]
theorem prodR_mem {n s : Nat} {I R : List Rd} {x : Rd} (h : x ∈ prodR n s I R) : ∃ i r, i ∈ I ∧ r ∈ R ∧ x = .nd n s i r := by
  obtain ⟨i, hi, h⟩ := List.mem_flatMap.mp h
  obtain ⟨r, hr, rfl⟩ := List.mem_map.mp h
  exact ⟨i, r, hi, hr, rfl⟩
theorem prodR_snoc {n s : Nat} {I R : List Rd} {k : Nat} {i : Rd} (h : I[k]? = some i) : prodR n s (I.take (k + 1)) R = prodR n s (I.take k) R ++ R.map fun r => .nd n s i r := by
  rw [List.take_succ, h]
  simp [prodR, List.flatMap_append]
/-- F, and as much of J as the limit allows -/
def cutJ (lim : Nat) (F J : List Rd) : List Rd := F ++ J.take (lim + 1 - F.length)
theorem cutJ_nil {lim : Nat} {F : List Rd} : cutJ lim F [] = F := by simp [cutJ]
theorem cutJ_snoc {lim : Nat} {F J : List Rd} {x : Rd} (hF : F.length ≤ lim + 1) : cutJ lim F (J ++ [x]) = if (cutJ lim F J).length ≤ lim then cutJ lim F J ++ [x] else cutJ lim F J := by
  unfold cutJ
  have e : (F ++ J.take (lim + 1 - F.length)).length = F.length + min (lim + 1 - F.length) J.length := by simp
  rw [e]
  split
  · rename_i h
    have : J.length < lim + 1 - F.length := by omega
    rw [List.take_of_length_le (by simp; omega), List.take_of_length_le (by omega), List.append_assoc]
  · rename_i h
    have : lim + 1 - F.length ≤ J.length := by omega
    rw [List.take_append_of_le_length this]
theorem cutJ_len {lim : Nat} {F J : List Rd} (hF : F.length ≤ lim + 1) : (cutJ lim F J).length ≤ lim + 1 := by
  unfold cutJ
  rw [List.length_append, List.length_take]
  omega
section
variable {S : Sto} {m : Nat} {Q : D → Sto → Prop} {E : Xc → Sto → Prop}
end
end My

namespace My
open PySem PySem.Spec PyProof.Rows L2 DL
/-! ### the program's machines -/
theorem okL_some {r : Option (List PyData × Sto)} {P : List PyData → Sto → Prop} {E : Xc → Sto → Prop} (h : WE (okL r) (fun d S => ∃ l, d = .lst l ∧ P l S) E) : ∃ l S, r = some (l, S) ∧ P l S := by
  cases r with
  | none => exact h.elim
  | some p =>
    obtain ⟨l, S⟩ := p
    obtain ⟨l', e, q⟩ := h
    cases e
    exact ⟨l, S, rfl, q⟩
theorem WE_lc2 {g : GD} {c : BD} {i1 : DL.Env → Sto → Rs (PyData × List PyData)} {inner : DL.Env → List D → List PyData → Sto → Option (List PyData × Sto)} {chk : Sto → Prop} {vs1 : List Nat} {ρ0 : DL.Env} {Q : D → Sto → Prop} {E : Xc → Sto → Prop} (I : Nat → List PyData → Sto → Prop) :
    ∀ (ds : List D) (k : Nat) (acc : List PyData) (S : Sto), I k acc S →
    (∀ i d acc S, ds[i]? = some d → I (k + i) acc S → WE (g d ρ0 S) (fun ρ1 S1 => WE (c ρ1 S1) (fun b S2 => if b = true then WE (i1 ρ1 S2) (fun l S3 => ∃ acc' S4, inner (wipeE ρ1 vs1) (l.2.map .p) acc S3 = some (acc', S4) ∧ chk S4 ∧ I (k + i + 1) acc' S4) (fun _ _ => False) else chk S2 ∧ I (k + i + 1) acc S2) (fun _ _ => False)) (fun _ _ => False)) →
    (∀ acc S, I (k + ds.length) acc S → Q (.lst acc) S) → WE (okL (lc2L g c i1 inner chk vs1 ρ0 ds acc S)) Q E
  | [], k, acc, S, h0, _, hn => hn acc S h0
  | d :: ds, k, acc, S, h0, hs, hn => by
    have q := hs 0 d acc S rfl h0
    have ih := fun acc2 S2 h => WE_lc2 (g := g) (c := c) (i1 := i1) (inner := inner) (chk := chk) (vs1 := vs1) (ρ0 := ρ0) (Q := Q) (E := E) I ds (k + 1) acc2 S2 h (fun i d ρ S e h => by
        have := hs (i + 1) d ρ S e (by rw [show k + (i + 1) = k + 1 + i by omega]; exact h)
        rw [show k + (i + 1) = k + 1 + i by omega] at this
        exact this) (fun ρ S h => hn ρ S (by rw [List.length_cons, show k + (ds.length + 1) = k + 1 + ds.length by omega]; exact h))
    unfold lc2L
    cases e : g d ρ0 S with
    | st => rw [e] at q; exact q.elim
    | ex x S1 => rw [e] at q; exact q.elim
    | ok ρ1 S1 =>
      rw [e] at q
      have q : WE (c ρ1 S1) _ _ := q
      dsimp only
      cases e2 : c ρ1 S1 with
      | st => rw [e2] at q; exact q.elim
      | ex x S1 => rw [e2] at q; exact q.elim
      | ok b S2 =>
        rw [e2] at q
        cases b with
        | false =>
          have q : chk S2 ∧ _ := q
          dsimp only
          rw [if_pos q.1]
          exact ih _ _ q.2
        | true =>
          have q : WE (i1 ρ1 S2) _ _ := q
          dsimp only
          cases e3 : i1 ρ1 S2 with
          | st => rw [e3] at q; exact q.elim
          | ex x S1 => rw [e3] at q; exact q.elim
          | ok l S3 =>
            rw [e3] at q
            obtain ⟨acc', S4, h1, h2, h3⟩ := q
            dsimp only
            rw [h1]
            dsimp only
            rw [if_pos h2]
            exact ih _ _ h3
theorem eLc2_ap {fi : DL.Env → Sto → Rs IDt} {g g1 : GD} {c c1 : BD} {i1 : DL.Env → Sto → Rs (PyData × List PyData)} {f : ED} {vs vs1 : List Nat} {ρ : DL.Env} {S : Sto} : eLc2 fi g c i1 g1 c1 f vs vs1 ρ S = (fi ρ S).bind fun d S1 => okL (lc2L g c i1 (lcL g1 c1 f (fun _ => True)) d.2 vs1 (wipeE ρ vs) d.1 [] S1) := rfl
section
variable {S : Sto} {Q : D → Sto → Prop} {E : Xc → Sto → Prop}
theorem iFzL_ap {f : ED} {ρ : DL.Env} {S : Sto} {l : List PyData} (h : f ρ S = .ok (.p (.list l)) S) : iFzL f ρ S = .ok (.list l, l) S := by
  unfold iFzL
  rw [h]
  rfl
theorem all_pairs_wp {as bs : List Nat} (hc : ClS 0 S) (hn : as.length * bs.length < 10000) (q : Q (.p (.list ((prodL as bs).map pD))) S) : WE (G_all_pairs [.p (.list (iLs as)), .p (.list (iLs bs))] S) Q E := by
  refine WE_def (fun d S' => d = .p (.list ((prodL as bs).map pD)) ∧ S' = S) ?_ (fun d S' ⟨e1, e2⟩ => ⟨_, S, [], e1, by rw [e2, List.append_nil], rfl, hc, q⟩)
  rw [show start0 NN_all_pairs [.p (.list (iLs as)), .p (.list (iLs bs))] = [some (.p (.list (iLs as))), some (.p (.list (iLs bs))), none, none] from rfl]
  unfold B_all_pairs
  simp -implicitDefEqProofs only [DL.wpW, reduceIte, Nat.reduceAdd, Nat.reduceLeDiff, DL.sFor_ap, eLc2_ap]
  rw [show wipeE [some (D.p (.list (iLs as))), some (D.p (.list (iLs bs))), none, none] [2, 3] = [some (D.p (.list (iLs as))), some (D.p (.list (iLs bs))), none, none] from rfl]
  refine WE_lc2 (fun i acc S' => S' = S ∧ acc = (prodL (as.take i) bs).map pD) _ 0 _ _ ⟨rfl, by simp [prodL]⟩ ?_ ?_
  · rintro i d acc S' hd ⟨rfl, rfl⟩
    rw [List.map_map, List.getElem?_map] at hd
    cases ea : as[i]? with
    | none => rw [ea] at hd; cases hd
    | some a =>
      rw [ea] at hd
      cases hd
      have hi : i < as.length := (List.getElem?_eq_some_iff.mp ea).1
      rw [Nat.zero_add]
      simp only [gNm_ap, WE_ok, bYes_ap, if_true, List.set_cons_succ, List.set_cons_zero, Function.comp_apply]
      rw [iFzL_ap (l := iLs bs) rfl]
      have hb : (prodL (as.take i) bs).length + bs.length ≤ as.length * bs.length := by
        rw [prodL_len, List.length_take, ← Nat.succ_mul]
        exact Nat.mul_le_mul_right _ (by omega)
      simp only [WE_ok]
      obtain ⟨l, S2, h1, rfl, h2⟩ := okL_some (r := lcL (gNm 3) bYes (eTup (aCons (eVar 2) (aCons (eVar 3) aNil))) (fun _ => True) (wipeE [some (D.p (.list (iLs as))), some (D.p (.list (iLs bs))), some (.int (a : Nat)), none] [3]) (List.map D.p (iLs bs)) ((prodL (as.take i) bs).map pD) S') (P := fun l S2 => l = (prodL (as.take i) bs).map pD ++ (bs.map fun b => pD (a, b)) ∧ S2 = S') (E := fun _ _ => False) (by
        rw [show wipeE [some (D.p (.list (iLs as))), some (D.p (.list (iLs bs))), some (.int (a : Nat)), none] [3] = [some (D.p (.list (iLs as))), some (D.p (.list (iLs bs))), some (.int (a : Nat)), none] from rfl]
        refine WE_lc (fun j acc S2 => acc = (prodL (as.take i) bs).map pD ++ ((bs.take j).map fun b => pD (a, b)) ∧ S2 = S') _ 0 _ _ ⟨by simp, rfl⟩ ?_ ?_
        · rintro j d acc S2 hd ⟨rfl, rfl⟩
          rw [List.map_map, List.getElem?_map] at hd
          cases eb : bs[j]? with
          | none => rw [eb] at hd; cases hd
          | some b =>
            rw [eb] at hd
            cases hd
            have hj : j < bs.length := (List.getElem?_eq_some_iff.mp eb).1
            rw [Nat.zero_add, List.take_succ, eb]
            simp -implicitDefEqProofs only [DL.wpW, reduceIte, Nat.reduceAdd, Nat.reduceLeDiff, DL.sFor_ap, Function.comp_apply]
            refine ⟨_, _, rfl, ?_, trivial, by simp [pD], by trivial⟩
            rw [List.length_append, List.length_map, List.length_map, List.length_take]
            omega
        · rintro acc S2 ⟨rfl, rfl⟩
          rw [List.length_map, List.length_map, Nat.zero_add, List.take_length]
          exact ⟨_, rfl, rfl, rfl⟩)
      refine ⟨_, _, h1, trivial, h2, ?_⟩
      rw [prodL_snoc ea, List.map_append, List.map_map]
      rfl
  · rintro acc S' ⟨rfl, rfl⟩
    rw [List.length_map, List.length_map, Nat.zero_add, List.take_length]
    simp -implicitDefEqProofs only [DL.wpW, reduceIte, Nat.reduceAdd, Nat.reduceLeDiff, DL.sFor_ap]
    all_goals exact ⟨by trivial, by trivial⟩
end
end My

namespace My
open PySem PySem.Spec PyProof.Rows L2 DL
/-! ### list_places, outline -/
abbrev L2w : List PyData := [.str "sequence", .str "choice"]
theorem l2v : SeqAt.shaped (.tuple L2w) = true := by decide +kernel
theorem o2 : (L2w.any fun z => PyData.eqv z (.str "sequence")) = true := by decide +kernel
theorem o3 : (L2w.any fun z => PyData.eqv z (.str "choice")) = true := by decide +kernel
theorem o4 : (L2w.any fun z => PyData.eqv z (.str "any")) = false := by decide +kernel
theorem o5 : (L2w.any fun z => PyData.eqv z (.str "some")) = false := by decide +kernel
theorem o6 : (L2w.any fun z => PyData.eqv z (.str "maybe")) = false := by decide +kernel
theorem m4 : (Str.ofString "any" == Str.ofString "choice") = false := by decide +kernel
theorem m5 : (Str.ofString "some" == Str.ofString "choice") = false := by decide +kernel
theorem m6 : (Str.ofString "maybe" == Str.ofString "choice") = false := by decide +kernel
theorem n4 : (Str.ofString "any" == Str.ofString "maybe") = false := by decide +kernel
theorem n5 : (Str.ofString "some" == Str.ofString "maybe") = false := by decide +kernel
theorem n7 : (Str.ofString "some" == Str.ofString "any") = false := by decide +kernel
theorem Ex.plc_len (e : Ex) : e.plc.length = e.cnt := by
  have := e.pls_len
  rw [e.pls_eq, List.length_map] at this
  exact this
section
variable {S : Sto} {Q : D → Sto → Prop} {E : Xc → Sto → Prop}
theorem gExt_at {S T : Sto} {l m : List PyData} (hl : l.length + m.length ≤ sizeLine) : gExt (.ob S.length) [.p (.list m)] (S ++ dL l :: T) = .ok .non (S ++ dL (l ++ m) :: T) := by
  have e1 : vList (S ++ dL l :: T) (.p (.list m)) = some m := rfl
  have e2 : (S ++ dL l :: T)[S.length]? = some (dL l) := by rw [List.getElem?_append_right (Nat.le_refl _), Nat.sub_self]; rfl
  have e3 : oLst (S ++ dL l :: T) (.ob S.length) = some (S.length, l.map .p) := by
    unfold oLst
    simp only [e2]
  unfold gExt
  simp only [e1, e3, List.length_map]
  rw [if_pos hl, List.set_append_right _ _ (Nat.le_refl _), Nat.sub_self]
  simp
theorem isL_at {S T : Sto} {l : List PyData} : isLst (S ++ dL l :: T) (.ob S.length) = true := by
  have e2 : (S ++ dL l :: T)[S.length]? = some (dL l) := by rw [List.getElem?_append_right (Nat.le_refl _), Nat.sub_self]; rfl
  unfold isLst
  simp only [e2]
abbrev plP (e : Ex) : PyData := .list (e.plc.map Pl4.py)
theorem places_wp : ∀ (e : Ex) (f : Nat) {S : Sto} {Q : D → Sto → Prop} {E : Xc → Sto → Prop}, e.dep < f → e.cnt < 100000 → ClS 0 S → Q (.p (plP e)) S → WE (G_list_places f [.p e.py] S) Q E := by
  have two : ∀ (w : String) (a b : Ex) (f : Nat) {S : Sto} {Q : D → Sto → Prop} {E : Xc → Sto → Prop}, (Str.ofString w == Str.ofString "place") = false → SeqAt.shaped (.str (Str.ofString w)) = true → (L2w.any fun z => PyData.eqv z (.str (Str.ofString w))) = true → a.cnt + b.cnt < 100000 → ClS 0 S →
      (∀ {S : Sto} {Q : D → Sto → Prop} {E : Xc → Sto → Prop}, ClS 0 S → Q (.p (plP a)) S → WE (G_list_places f [.p a.py] S) Q E) →
      (∀ {S : Sto} {Q : D → Sto → Prop} {E : Xc → Sto → Prop}, ClS 0 S → Q (.p (plP b)) S → WE (G_list_places f [.p b.py] S) Q E) →
      Q (.p (.list ((a.plc ++ b.plc).map Pl4.py))) S → WE (G_list_places (f + 1) [.p (.tuple [.str (Str.ofString w), .tuple [a.py, b.py]])] S) Q E := by
    intro w a b f S Q E h1 h2 h3 hn hc ha hb q
    have la := a.plc_len
    have lb := b.plc_len
    refine WE_def (fun d S' => d = .p (.list ((a.plc ++ b.plc).map Pl4.py)) ∧ ∃ T, S' = S ++ T) ?_ (fun d S' ⟨e1, T, e2⟩ => ⟨_, S, T, e1, e2, rfl, hc, q⟩)
    rw [show start0 NN_list_places [.p (.tuple [.str (Str.ofString w), .tuple [a.py, b.py]])] = [some (.p (.tuple [.str (Str.ofString w), .tuple [a.py, b.py]])), none, none] from rfl]
    unfold B_list_places
    simp -implicitDefEqProofs only [DL.wpW, reduceIte, Nat.reduceAdd, Nat.reduceLeDiff, DL.sFor_ap, h1, inw h2 l2v, h3, List.map_cons, List.map_nil]
    refine WS_for (fun i ρ S' => ∃ v2 l, ((i = 0 ∧ l = []) ∨ (i = 1 ∧ l = a.plc) ∨ (i = 2 ∧ l = a.plc ++ b.plc)) ∧ S' = S ++ [dL (l.map Pl4.py)] ∧ ρ = [some (.p (.tuple [.str (Str.ofString w), .tuple [a.py, b.py]])), some (.ob S.length), v2]) _ 0 _ _ ⟨_, [], .inl ⟨rfl, rfl⟩, rfl, rfl⟩ ?_ ?_
    · rintro i d ρ S' hd ⟨v2, l, (⟨hi, rfl⟩ | ⟨hi, rfl⟩ | ⟨hi, rfl⟩), rfl, rfl⟩
      · have hi : i = 0 := by omega
        subst hi
        cases hd
        simp -implicitDefEqProofs only [DL.wpW, reduceIte, Nat.reduceAdd, Nat.reduceLeDiff, DL.sFor_ap, tg0]
        refine ha (clS_app hc (clS_one clO_p)) ?_
        have g := gExt_at (S := S) (T := []) (l := ([] : List Pl4).map Pl4.py) (m := a.plc.map Pl4.py) (by rw [List.length_map, List.length_map, sizeLine_eq]; simp; omega)
        simp -implicitDefEqProofs only [DL.wpW, reduceIte, Nat.reduceAdd, Nat.reduceLeDiff, DL.sFor_ap, g]
        exact ⟨by trivial, _, _, .inr (.inl ⟨by trivial, rfl⟩), by simp, rfl⟩
      · have hi : i = 1 := by omega
        subst hi
        cases hd
        simp -implicitDefEqProofs only [DL.wpW, reduceIte, Nat.reduceAdd, Nat.reduceLeDiff, DL.sFor_ap, tg0]
        refine hb (clS_app hc (clS_one clO_p)) ?_
        have g := gExt_at (S := S) (T := []) (l := a.plc.map Pl4.py) (m := b.plc.map Pl4.py) (by rw [List.length_map, List.length_map, sizeLine_eq]; omega)
        simp -implicitDefEqProofs only [DL.wpW, reduceIte, Nat.reduceAdd, Nat.reduceLeDiff, DL.sFor_ap, g]
        exact ⟨by trivial, _, _, .inr (.inr ⟨by trivial, rfl⟩), by simp, rfl⟩
      · have hi : i = 2 := by omega
        subst hi
        cases hd
    · rintro ρ S' ⟨v2, l, (⟨hi, rfl⟩ | ⟨hi, rfl⟩ | ⟨hi, rfl⟩), rfl, rfl⟩
      · cases hi
      · cases hi
      · have rd : restD (.ob S.length) (S ++ [dL ((a.plc ++ b.plc).map Pl4.py)]) = some (.list ((a.plc ++ b.plc).map Pl4.py), S ++ [.fz ((a.plc ++ b.plc).map Pl4.py)]) := by
          unfold restD
          simp only [tg0]
          show (pAll (((a.plc ++ b.plc).map Pl4.py).map D.p)).map _ = _
          rw [pAll_map, Option.map_some, ts0]
          rfl
        simp -implicitDefEqProofs only [DL.wpW, reduceIte, Nat.reduceAdd, Nat.reduceLeDiff, DL.sFor_ap, rd]
        exact ⟨by trivial, [.fz ((a.plc ++ b.plc).map Pl4.py)], rfl⟩
  intro e
  induction e with
  | pl p lo hi c =>
    intro f S Q E hf hn hc q
    obtain ⟨f, rfl⟩ : ∃ f', f = f' + 1 := ⟨f - 1, by omega⟩
    refine WE_def (fun d S' => d = .p (plP (.pl p lo hi c)) ∧ S' = S) ?_ (fun d S' ⟨e1, e2⟩ => ⟨_, S, [], e1, by rw [e2, List.append_nil], rfl, hc, q⟩)
    rw [show start0 NN_list_places [.p (Ex.pl p lo hi c).py] = [some (.p (Ex.pl p lo hi c).py), none, none] from rfl]
    unfold B_list_places
    simp -implicitDefEqProofs only [DL.wpW, reduceIte, Nat.reduceAdd, Nat.reduceLeDiff, DL.sFor_ap, Ex.py, beq_self_eq_true]
    exact ⟨by simp [Ex.plc, Pl4.py, Ex.py], by trivial⟩
  | sq a b iha ihb =>
    intro f S Q E hf hn hc q
    obtain ⟨f, rfl⟩ : ∃ f', f = f' + 1 := ⟨f - 1, by omega⟩
    have hd : a.dep < f ∧ b.dep < f := by simp only [Ex.dep] at hf; omega
    have hcn : a.cnt < 100000 ∧ b.cnt < 100000 ∧ a.cnt + b.cnt < 100000 := by simp only [Ex.cnt] at hn; omega
    exact two "sequence" a b f e2 ws2 o2 hcn.2.2 hc (fun h q => iha f hd.1 hcn.1 h q) (fun h q => ihb f hd.2 hcn.2.1 h q) q
  | ch a b iha ihb =>
    intro f S Q E hf hn hc q
    obtain ⟨f, rfl⟩ : ∃ f', f = f' + 1 := ⟨f - 1, by omega⟩
    have hd : a.dep < f ∧ b.dep < f := by simp only [Ex.dep] at hf; omega
    have hcn : a.cnt < 100000 ∧ b.cnt < 100000 ∧ a.cnt + b.cnt < 100000 := by simp only [Ex.cnt] at hn; omega
    exact two "choice" a b f e3 ws3 o3 hcn.2.2 hc (fun h q => iha f hd.1 hcn.1 h q) (fun h q => ihb f hd.2 hcn.2.1 h q) q
  | an a iha =>
    intro f S Q E hf hn hc q
    obtain ⟨f, rfl⟩ : ∃ f', f = f' + 1 := ⟨f - 1, by omega⟩
    have hd : a.dep < f := by simp only [Ex.dep] at hf; omega
    refine WE_def (fun d S' => d = .p (plP (.an a)) ∧ S' = S) ?_ (fun d S' ⟨e1, e2⟩ => ⟨_, S, [], e1, by rw [e2, List.append_nil], rfl, hc, q⟩)
    rw [show start0 NN_list_places [.p (Ex.an a).py] = [some (.p (Ex.an a).py), none, none] from rfl]
    unfold B_list_places
    simp -implicitDefEqProofs only [DL.wpW, reduceIte, Nat.reduceAdd, Nat.reduceLeDiff, DL.sFor_ap, Ex.py, e4, inw ws4 l2v, o4]
    refine iha f hd hn hc ?_
    simp -implicitDefEqProofs only [DL.wpW, reduceIte, Nat.reduceAdd, Nat.reduceLeDiff, DL.sFor_ap]
    exact ⟨by trivial, by trivial⟩
  | so a iha =>
    intro f S Q E hf hn hc q
    obtain ⟨f, rfl⟩ : ∃ f', f = f' + 1 := ⟨f - 1, by omega⟩
    have hd : a.dep < f := by simp only [Ex.dep] at hf; omega
    refine WE_def (fun d S' => d = .p (plP (.so a)) ∧ S' = S) ?_ (fun d S' ⟨e1, e2⟩ => ⟨_, S, [], e1, by rw [e2, List.append_nil], rfl, hc, q⟩)
    rw [show start0 NN_list_places [.p (Ex.so a).py] = [some (.p (Ex.so a).py), none, none] from rfl]
    unfold B_list_places
    simp -implicitDefEqProofs only [DL.wpW, reduceIte, Nat.reduceAdd, Nat.reduceLeDiff, DL.sFor_ap, Ex.py, e5, inw ws5 l2v, o5]
    refine iha f hd hn hc ?_
    simp -implicitDefEqProofs only [DL.wpW, reduceIte, Nat.reduceAdd, Nat.reduceLeDiff, DL.sFor_ap]
    exact ⟨by trivial, by trivial⟩
  | mb a iha =>
    intro f S Q E hf hn hc q
    obtain ⟨f, rfl⟩ : ∃ f', f = f' + 1 := ⟨f - 1, by omega⟩
    have hd : a.dep < f := by simp only [Ex.dep] at hf; omega
    refine WE_def (fun d S' => d = .p (plP (.mb a)) ∧ S' = S) ?_ (fun d S' ⟨e1, e2⟩ => ⟨_, S, [], e1, by rw [e2, List.append_nil], rfl, hc, q⟩)
    rw [show start0 NN_list_places [.p (Ex.mb a).py] = [some (.p (Ex.mb a).py), none, none] from rfl]
    unfold B_list_places
    simp -implicitDefEqProofs only [DL.wpW, reduceIte, Nat.reduceAdd, Nat.reduceLeDiff, DL.sFor_ap, Ex.py, e6, inw ws6 l2v, o6]
    refine iha f hd hn hc ?_
    simp -implicitDefEqProofs only [DL.wpW, reduceIte, Nat.reduceAdd, Nat.reduceLeDiff, DL.sFor_ap]
    exact ⟨by trivial, by trivial⟩
end
end My

namespace My
open PySem PySem.Spec PyProof.Rows L2 DL
def Ex.nul : Ex → Bool
  | .pl .. => false
  | .sq a b => a.nul && b.nul
  | .ch a b => a.nul || b.nul
  | .an _ => true
  | .so a => a.nul
  | .mb _ => true
theorem Ex.num_null : ∀ (e : Ex) (k : Nat), (e.num k).null = e.nul
  | .pl .., _ => rfl
  | .sq a b, k => by simp only [Ex.num, NT.null, a.num_null, b.num_null, Ex.nul]
  | .ch a b, k => by simp only [Ex.num, NT.null, a.num_null, b.num_null, Ex.nul]
  | .an a, k => rfl
  | .so a, k => a.num_null k
  | .mb a, k => rfl
abbrev Ex.fst (e : Ex) (k : Nat) : List Nat := (e.num k).ends false
def Ex.lst : Ex → Nat → List Nat
  | .pl .., k => [k + 1]
  | .sq a b, k => if b.nul = true then a.lst k ++ b.lst (k + a.cnt) else b.lst (k + a.cnt)
  | .ch a b, k => a.lst k ++ b.lst (k + a.cnt)
  | .an a, k => a.lst k
  | .so a, k => a.lst k
  | .mb a, k => a.lst k
def Ex.prs : Ex → Nat → List (Nat × Nat)
  | .pl .., _ => []
  | .sq a b, k => a.prs k ++ b.prs (k + a.cnt) ++ prodL (a.lst k) (b.fst (k + a.cnt))
  | .ch a b, k => a.prs k ++ b.prs (k + a.cnt)
  | .an a, k => a.prs k ++ prodL (a.lst k) (a.fst k)
  | .so a, k => a.prs k ++ prodL (a.lst k) (a.fst k)
  | .mb a, k => a.prs k
theorem Ex.lst_mem : ∀ (e : Ex) (k j : Nat), j ∈ e.lst k ↔ j ∈ (e.num k).ends true
  | .pl .., k, j => by simp [Ex.lst, Ex.num, NT.ends]
  | .sq a b, k, j => by
    have h1 := a.lst_mem k j
    have h2 := b.lst_mem (k + a.cnt) j
    simp only [Ex.lst, Ex.num, NT.ends, if_true, b.num_null]
    split
    · rw [List.mem_append, List.mem_append, h1, h2]; exact Or.comm
    · rw [h2]; simp
  | .ch a b, k, j => by
    have h1 := a.lst_mem k j
    have h2 := b.lst_mem (k + a.cnt) j
    simp only [Ex.lst, Ex.num, NT.ends, if_true]
    rw [List.mem_append, List.mem_append, h1, h2]; exact Or.comm
  | .an a, k, j => a.lst_mem k j
  | .so a, k, j => a.lst_mem k j
  | .mb a, k, j => a.lst_mem k j
theorem Ex.lst_len : ∀ (e : Ex) (k : Nat), (e.lst k).length = ((e.num k).ends true).length
  | .pl .., k => rfl
  | .sq a b, k => by
    have h1 := a.lst_len k
    have h2 := b.lst_len (k + a.cnt)
    simp only [Ex.lst, Ex.num, NT.ends, if_true, b.num_null]
    split
    · rw [List.length_append, List.length_append, h1, h2]; omega
    · rw [h2]; simp
  | .ch a b, k => by
    have h1 := a.lst_len k
    have h2 := b.lst_len (k + a.cnt)
    simp only [Ex.lst, Ex.num, NT.ends, if_true]
    rw [List.length_append, List.length_append, h1, h2]; omega
  | .an a, k => a.lst_len k
  | .so a, k => a.lst_len k
  | .mb a, k => a.lst_len k
theorem mem_prodL_iff {as bs : List Nat} {p : Nat × Nat} : p ∈ prodL as bs ↔ p.1 ∈ as ∧ p.2 ∈ bs :=
  ⟨mem_prodL, fun ⟨h1, h2⟩ => List.mem_flatMap.mpr ⟨p.1, h1, List.mem_map.mpr ⟨p.2, h2, rfl⟩⟩⟩
theorem Ex.prs_mem : ∀ (e : Ex) (k : Nat) (p : Nat × Nat), p ∈ e.prs k ↔ p ∈ (e.num k).fol
  | .pl .., k, p => Iff.rfl
  | .sq a b, k, p => by
    simp only [Ex.prs, Ex.num, NT.fol, List.mem_append, a.prs_mem, b.prs_mem, mem_prodL_iff, a.lst_mem]
  | .ch a b, k, p => by
    simp only [Ex.prs, Ex.num, NT.fol, List.mem_append, a.prs_mem, b.prs_mem]
  | .an a, k, p => by
    simp only [Ex.prs, Ex.num, NT.fol, List.mem_append, a.prs_mem, mem_prodL_iff, a.lst_mem]
    exact Or.comm
  | .so a, k, p => by
    simp only [Ex.prs, Ex.num, NT.fol, List.mem_append, a.prs_mem, mem_prodL_iff, a.lst_mem]
    exact Or.comm
  | .mb a, k, p => a.prs_mem k p
theorem Ex.prs_len : ∀ (e : Ex) (k : Nat), (e.prs k).length = (e.num k).fol.length
  | .pl .., k => rfl
  | .sq a b, k => by
    simp only [Ex.prs, Ex.num, NT.fol, List.length_append, prodL_len, a.prs_len, b.prs_len, a.lst_len]
  | .ch a b, k => by
    simp only [Ex.prs, Ex.num, NT.fol, List.length_append, a.prs_len, b.prs_len]
  | .an a, k => by
    simp only [Ex.prs, Ex.num, NT.fol, List.length_append, prodL_len, a.prs_len, a.lst_len, Ex.fst]
    omega
  | .so a, k => by
    simp only [Ex.prs, Ex.num, NT.fol, List.length_append, prodL_len, a.prs_len, a.lst_len, Ex.fst]
    omega
  | .mb a, k => a.prs_len k
/-- all lists of an outline are short -/
theorem Ex.short {e : Ex} (h1 : e.cnt ≤ 8) (h2 : e.dep < 6) (k : Nat) : (e.fst k).length ≤ 8 ∧ (e.lst k).length ≤ 8 ∧ (e.prs k).length ≤ 384 := by
  have a1 := (e.num k).ends_len false
  have a2 := (e.num k).ends_len true
  have a3 := (e.num k).fol_len
  rw [e.num_cnt] at a1 a2
  rw [e.num_cnt, e.num_dep] at a3
  rw [e.lst_len, e.prs_len]
  simp only [Ex.fst]
  have b1 : e.cnt * e.cnt ≤ 8 * 8 := Nat.mul_le_mul h1 h1
  have b2 : e.cnt * e.cnt * (e.dep + 1) ≤ 8 * 8 * 6 := Nat.mul_le_mul b1 (by omega)
  omega
abbrev prP (l : List (Nat × Nat)) : PyData := .list (l.map pD)
abbrev outP (b : Bool) (F L : List Nat) (P : List (Nat × Nat)) : PyData := .tuple [.bool b, .list (iLs F), .list (iLs L), prP P]
abbrev Ex.out (e : Ex) (k : Nat) : PyData := outP e.nul (e.fst k) (e.lst k) (e.prs k)
section
variable {S : Sto} {Q : D → Sto → Prop} {E : Xc → Sto → Prop}
/-- what the head of the outlines promises of an expression -/
abbrev OutSpec (g : FD) (e : Ex) : Prop := ∀ (k : Nat) {S : Sto} {Q : D → Sto → Prop} {E : Xc → Sto → Prop}, ClS 0 S → Q (.p (e.out k)) S → WE (g [.p e.py, .int ((k + 1 : Nat) : Int)] S) Q E
abbrev SE (items : PyData) (num : Nat) (b : Bool) (F L : List Nat) (P : List (Nat × Nat)) (v2 v7 v8 v9 v10 : Option D) : DL.Env :=
  [some (.p items), some (.int ((num + 1 : Nat) : Int)), v2, some (.bl b), some (.p (.list (iLs F))), some (.p (.list (iLs L))), some (.p (prP P)), v7, v8, v9, v10]
theorem seq_body {g : FD} {e : Ex} {items : PyData} {num : Nat} {b : Bool} {F L : List Nat} {P : List (Nat × Nat)} {v7 v8 v9 v10 : Option D} (H : OutSpec g e) (h1 : e.cnt ≤ 8) (h2 : e.dep < 6) (hc : ClS 0 S) (hF : F.length < 1000) (hL : L.length < 100) (hP : P.length < 10000) :
    WS ((sSeq (sAsg (eCall 2 g (aCons (eVar 2) (aCons (eVar 1) (aNil)))) (gTupD 4 (gsCons (gNm 7) (gsCons (gNm 8) (gsCons (gNm 9) (gsCons (gNm 10) (gsNil))))))) (sSeq (sSet 6 (eBin gAdd (eBin gAdd (eVar 6) (eVar 10)) (eCall 2 G_all_pairs (aCons (eVar 5) (aCons (eVar 8) (aNil)))))) (sSeq (sIf (bTru (eVar 3)) (sSet 4 (eBin gAdd (eVar 4) (eVar 8))) (sNil)) (sSeq (sSet 5 (eIf (bTru (eVar 7)) (eBin gAdd (eVar 5) (eVar 9)) (eVar 9))) (sSeq (sSet 3 (eAnd (eVar 3) (eVar 7))) (sAug 1 (eB gLen (aCons (eCall 1 (G_list_places 6) (aCons (eVar 2) (aNil))) (aNil))) gAddI))))))
      (SE items num b F L P (some (.p e.py)) v7 v8 v9 v10) S)
      (Qn fun ρ S' => S' = S ∧ ∃ v7 v8 v9 v10, ρ = SE items (num + e.cnt) (b && e.nul) (if b = true then F ++ e.fst num else F) (if e.nul = true then L ++ e.lst num else e.lst num) (P ++ e.prs num ++ prodL L (e.fst num)) (some (.p e.py)) v7 v8 v9 v10) := by
  obtain ⟨s1, s2, s3⟩ := e.short h1 h2 num
  refine WS_cut (fun ρ S' => S' = S ∧ ρ = SE items num b F L P (some (.p e.py)) (some (.bl e.nul)) (some (.p (.list (iLs (e.fst num))))) (some (.p (.list (iLs (e.lst num))))) (some (.p (prP (e.prs num))))) ?_ ?_
  · simp -implicitDefEqProofs only [DL.wpW, reduceIte, Nat.reduceAdd, Nat.reduceLeDiff, DL.sFor_ap]
    refine H num hc ?_
    try simp -implicitDefEqProofs only [DL.wpW, reduceIte, Nat.reduceAdd, Nat.reduceLeDiff, DL.sFor_ap]
    all_goals exact ⟨by trivial, by trivial⟩
  rintro ρ S' ⟨rfl, rfl⟩
  refine WS_cut (fun ρ S1 => S1 = S' ∧ ρ = SE items num b F L (P ++ e.prs num ++ prodL L (e.fst num)) (some (.p e.py)) (some (.bl e.nul)) (some (.p (.list (iLs (e.fst num))))) (some (.p (.list (iLs (e.lst num))))) (some (.p (prP (e.prs num))))) ?_ ?_
  · have hz : L.length * (e.fst num).length ≤ 100 * 8 := Nat.mul_le_mul (by omega) s1
    have z1 : P.length + (e.prs num).length ≤ 16777216 := by omega
    simp -implicitDefEqProofs only [DL.wpW, reduceIte, Nat.reduceAdd, Nat.reduceLeDiff, DL.sFor_ap, List.length_map, z1]
    refine all_pairs_wp hc (by omega) ?_
    have z2 : P.length + (e.prs num).length + L.length * (e.fst num).length ≤ 16777216 := by omega
    simp -implicitDefEqProofs only [DL.wpW, reduceIte, Nat.reduceAdd, Nat.reduceLeDiff, DL.sFor_ap, List.length_append, List.length_map, prodL_len, z2]
    all_goals exact ⟨by trivial, by simp [prP]⟩
  rintro ρ S1 ⟨rfl, rfl⟩
  refine WS_cut (fun ρ S' => S' = S1 ∧ ρ = SE items num b (if b = true then F ++ e.fst num else F) L (P ++ e.prs num ++ prodL L (e.fst num)) (some (.p e.py)) (some (.bl e.nul)) (some (.p (.list (iLs (e.fst num))))) (some (.p (.list (iLs (e.lst num))))) (some (.p (prP (e.prs num))))) ?_ ?_
  · cases b with
    | true =>
      have z1 : F.length + (e.fst num).length ≤ 16777216 := by omega
      simp -implicitDefEqProofs only [DL.wpW, reduceIte, Nat.reduceAdd, Nat.reduceLeDiff, DL.sFor_ap, List.length_map, z1, iLs_app]
      all_goals exact ⟨by trivial, by trivial⟩
    | false =>
      simp -implicitDefEqProofs only [DL.wpW, reduceIte, Nat.reduceAdd, Nat.reduceLeDiff, DL.sFor_ap]
      all_goals exact ⟨by trivial, by trivial⟩
  rintro ρ S' ⟨rfl, rfl⟩
  refine WS_cut (fun ρ S1 => S1 = S' ∧ ρ = SE items num b (if b = true then F ++ e.fst num else F) (if e.nul = true then L ++ e.lst num else e.lst num) (P ++ e.prs num ++ prodL L (e.fst num)) (some (.p e.py)) (some (.bl e.nul)) (some (.p (.list (iLs (e.fst num))))) (some (.p (.list (iLs (e.lst num))))) (some (.p (prP (e.prs num))))) ?_ ?_
  · generalize e.nul = en
    cases en with
    | true =>
      have z1 : L.length + (e.lst num).length ≤ 16777216 := by omega
      simp -implicitDefEqProofs only [DL.wpW, reduceIte, Nat.reduceAdd, Nat.reduceLeDiff, DL.sFor_ap, List.length_map, z1, iLs_app]
      all_goals exact ⟨by trivial, by trivial⟩
    | false =>
      simp -implicitDefEqProofs only [DL.wpW, reduceIte, Nat.reduceAdd, Nat.reduceLeDiff, DL.sFor_ap]
      all_goals exact ⟨by trivial, by trivial⟩
  rintro ρ S1 ⟨rfl, rfl⟩
  refine WS_cut (fun ρ S' => S' = S1 ∧ ρ = SE items num (b && e.nul) (if b = true then F ++ e.fst num else F) (if e.nul = true then L ++ e.lst num else e.lst num) (P ++ e.prs num ++ prodL L (e.fst num)) (some (.p e.py)) (some (.bl e.nul)) (some (.p (.list (iLs (e.fst num))))) (some (.p (.list (iLs (e.lst num))))) (some (.p (prP (e.prs num))))) ?_ ?_
  · cases b with
    | true =>
      simp -implicitDefEqProofs only [DL.wpW, reduceIte, Nat.reduceAdd, Nat.reduceLeDiff, DL.sFor_ap, Bool.true_and]
      all_goals exact ⟨by trivial, by trivial⟩
    | false =>
      simp -implicitDefEqProofs only [DL.wpW, reduceIte, Nat.reduceAdd, Nat.reduceLeDiff, DL.sFor_ap, Bool.false_and]
      all_goals exact ⟨by trivial, by trivial⟩
  rintro ρ S' ⟨rfl, rfl⟩
  simp -implicitDefEqProofs only [DL.wpW, reduceIte, Nat.reduceAdd, Nat.reduceLeDiff, DL.sFor_ap]
  refine places_wp e 6 h2 (by omega) hc ?_
  have z : ((num + 1 : Nat) : Int) + (e.cnt : Nat) = ((num + e.cnt + 1 : Nat) : Int) := by omega
  simp -implicitDefEqProofs only [DL.wpW, reduceIte, Nat.reduceAdd, Nat.reduceLeDiff, DL.sFor_ap, List.length_map, e.plc_len, z]
  exact ⟨by trivial, _, _, _, _, rfl⟩
end
end My

namespace My
open PySem PySem.Spec PyProof.Rows L2 DL
section
variable {S : Sto} {Q : D → Sto → Prop} {E : Xc → Sto → Prop}
theorem prodL_nil {bs : List Nat} : prodL [] bs = [] := rfl
theorem oseq_wp {g : FD} {a b : Ex} (Ha : OutSpec g a) (Hb : OutSpec g b) (h1 : a.cnt + b.cnt ≤ 8) (h2 : a.dep < 6 ∧ b.dep < 6) (k : Nat) (hc : ClS 0 S) (q : Q (.p ((Ex.sq a b).out k)) S) :
    WE (G_outline_of_sequence g [.p (.tuple [a.py, b.py]), .int ((k + 1 : Nat) : Int)] S) Q E := by
  refine WE_def (fun d S' => d = .p ((Ex.sq a b).out k) ∧ S' = S) ?_ (fun d S' ⟨e1, e2⟩ => ⟨_, S, [], e1, by rw [e2, List.append_nil], rfl, hc, q⟩)
  rw [show start0 NN_outline_of_sequence [.p (.tuple [a.py, b.py]), .int ((k + 1 : Nat) : Int)] = [some (.p (.tuple [a.py, b.py])), some (.int ((k + 1 : Nat) : Int)), none, none, none, none, none, none, none, none, none] from rfl]
  unfold B_outline_of_sequence
  obtain ⟨s1, s2, s3⟩ := a.short (by omega) h2.1 k
  refine WS_cut (fun ρ S' => S' = S ∧ ρ = SE (.tuple [a.py, b.py]) k true [] [] [] none none none none none) ?_ ?_
  · simp -implicitDefEqProofs only [DL.wpW, reduceIte, Nat.reduceAdd, Nat.reduceLeDiff, DL.sFor_ap]
    all_goals exact ⟨by trivial, by trivial⟩
  rintro ρ S' ⟨rfl, rfl⟩
  refine WS_cut (fun ρ S1 => S1 = S' ∧ ∃ v2 v7 v8 v9 v10, ρ = SE (.tuple [a.py, b.py]) (k + a.cnt + b.cnt) (Ex.sq a b).nul ((Ex.sq a b).fst k) ((Ex.sq a b).lst k) ((Ex.sq a b).prs k) v2 v7 v8 v9 v10) ?_ ?_
  · simp -implicitDefEqProofs only [DL.wpW, reduceIte, Nat.reduceAdd, Nat.reduceLeDiff, DL.sFor_ap, List.map_cons, List.map_nil]
    refine WS_for (fun i ρ S1 => S1 = S' ∧ ((i = 0 ∧ ρ = SE (.tuple [a.py, b.py]) k true [] [] [] none none none none none) ∨ (i = 1 ∧ ∃ v2 v7 v8 v9 v10, ρ = SE (.tuple [a.py, b.py]) (k + a.cnt) a.nul (a.fst k) (a.lst k) (a.prs k) v2 v7 v8 v9 v10) ∨
      (i = 2 ∧ ∃ v2 v7 v8 v9 v10, ρ = SE (.tuple [a.py, b.py]) (k + a.cnt + b.cnt) (Ex.sq a b).nul ((Ex.sq a b).fst k) ((Ex.sq a b).lst k) ((Ex.sq a b).prs k) v2 v7 v8 v9 v10))) _ 0 _ _ ⟨rfl, .inl ⟨rfl, rfl⟩⟩ ?_ ?_
    · rintro i d ρ S1 hd ⟨rfl, (⟨hi, rfl⟩ | ⟨hi, v2, v7, v8, v9, v10, rfl⟩ | ⟨hi, v2, v7, v8, v9, v10, rfl⟩)⟩
      · have hi : i = 0 := by omega
        subst hi
        cases hd
        simp only [gNm_ap, WE_ok, List.set_cons_succ, List.set_cons_zero]
        refine WS_mono (seq_body (items := .tuple [a.py, b.py]) (num := k) (b := true) (F := []) (L := []) (P := []) Ha (by omega) h2.1 hc (by simp) (by simp) (by simp)) (fun ρ S2 h => ?_) (fun _ _ z => z.elim) (fun _ _ z => z.elim) (fun _ _ z => z.elim) (fun _ _ _ z => z.elim)
        obtain ⟨rfl, v7, v8, v9, v10, rfl⟩ := h
        refine ⟨trivial, by trivial, .inr (.inl ⟨by trivial, some (.p a.py), v7, v8, v9, v10, ?_⟩)⟩
        simp [prodL_nil]
      · have hi : i = 1 := by omega
        subst hi
        cases hd
        simp only [gNm_ap, WE_ok, List.set_cons_succ, List.set_cons_zero]
        refine WS_mono (seq_body (items := .tuple [a.py, b.py]) (num := k + a.cnt) (b := a.nul) (F := a.fst k) (L := a.lst k) (P := a.prs k) Hb (by omega) h2.2 hc (by omega) (by omega) (by omega)) (fun ρ S2 h => ?_) (fun _ _ z => z.elim) (fun _ _ z => z.elim) (fun _ _ z => z.elim) (fun _ _ _ z => z.elim)
        obtain ⟨rfl, v7, v8, v9, v10, rfl⟩ := h
        refine ⟨trivial, by trivial, .inr (.inr ⟨by trivial, some (.p b.py), v7, v8, v9, v10, ?_⟩)⟩
        have f1 : (if a.nul = true then a.fst k ++ b.fst (k + a.cnt) else a.fst k) = (Ex.sq a b).fst k := by
          simp only [Ex.fst, Ex.num, NT.ends, Bool.false_eq_true, if_false, a.num_null]
          split <;> simp
        rw [f1]
        rfl
      · have hi : i = 2 := by omega
        subst hi
        cases hd
    · rintro ρ S1 ⟨rfl, (⟨hi, _⟩ | ⟨hi, _⟩ | ⟨hi, v2, v7, v8, v9, v10, rfl⟩)⟩
      · cases hi
      · cases hi
      · exact ⟨rfl, v2, v7, v8, v9, v10, rfl⟩
  rintro ρ S1 ⟨rfl, v2, v7, v8, v9, v10, rfl⟩
  simp -implicitDefEqProofs only [DL.wpW, reduceIte, Nat.reduceAdd, Nat.reduceLeDiff, DL.sFor_ap]
  all_goals exact ⟨by trivial, by trivial⟩
theorem ch_body {g : FD} {e : Ex} {items : PyData} {num : Nat} {b : Bool} {F L : List Nat} {P : List (Nat × Nat)} {v7 v8 v9 v10 : Option D} (H : OutSpec g e) (h1 : e.cnt ≤ 8) (h2 : e.dep < 6) (hc : ClS 0 S) (hF : F.length < 1000) (hL : L.length < 100) (hP : P.length < 10000) :
    WS ((sSeq (sAsg (eCall 2 g (aCons (eVar 2) (aCons (eVar 1) (aNil)))) (gTupD 4 (gsCons (gNm 7) (gsCons (gNm 8) (gsCons (gNm 9) (gsCons (gNm 10) (gsNil))))))) (sSeq (sSet 3 (eOr (eVar 3) (eVar 7))) (sSeq (sSet 4 (eBin gAdd (eVar 4) (eVar 8))) (sSeq (sSet 5 (eBin gAdd (eVar 5) (eVar 9))) (sSeq (sSet 6 (eBin gAdd (eVar 6) (eVar 10))) (sAug 1 (eB gLen (aCons (eCall 1 (G_list_places 6) (aCons (eVar 2) (aNil))) (aNil))) gAddI))))))
      (SE items num b F L P (some (.p e.py)) v7 v8 v9 v10) S)
      (Qn fun ρ S' => S' = S ∧ ∃ v7 v8 v9 v10, ρ = SE items (num + e.cnt) (b || e.nul) (F ++ e.fst num) (L ++ e.lst num) (P ++ e.prs num) (some (.p e.py)) v7 v8 v9 v10) := by
  obtain ⟨s1, s2, s3⟩ := e.short h1 h2 num
  refine WS_cut (fun ρ S' => S' = S ∧ ρ = SE items num b F L P (some (.p e.py)) (some (.bl e.nul)) (some (.p (.list (iLs (e.fst num))))) (some (.p (.list (iLs (e.lst num))))) (some (.p (prP (e.prs num))))) ?_ ?_
  · simp -implicitDefEqProofs only [DL.wpW, reduceIte, Nat.reduceAdd, Nat.reduceLeDiff, DL.sFor_ap]
    refine H num hc ?_
    try simp -implicitDefEqProofs only [DL.wpW, reduceIte, Nat.reduceAdd, Nat.reduceLeDiff, DL.sFor_ap]
    all_goals exact ⟨by trivial, by trivial⟩
  rintro ρ S' ⟨rfl, rfl⟩
  refine WS_cut (fun ρ S1 => S1 = S' ∧ ρ = SE items num (b || e.nul) F L P (some (.p e.py)) (some (.bl e.nul)) (some (.p (.list (iLs (e.fst num))))) (some (.p (.list (iLs (e.lst num))))) (some (.p (prP (e.prs num))))) ?_ ?_
  · cases b with
    | true =>
      simp -implicitDefEqProofs only [DL.wpW, reduceIte, Nat.reduceAdd, Nat.reduceLeDiff, DL.sFor_ap, Bool.true_or]
      all_goals exact ⟨by trivial, by trivial⟩
    | false =>
      simp -implicitDefEqProofs only [DL.wpW, reduceIte, Nat.reduceAdd, Nat.reduceLeDiff, DL.sFor_ap, Bool.false_or]
      all_goals exact ⟨by trivial, by trivial⟩
  rintro ρ S1 ⟨rfl, rfl⟩
  have z1 : F.length + (e.fst num).length ≤ 16777216 := by omega
  have z2 : L.length + (e.lst num).length ≤ 16777216 := by omega
  have z3 : P.length + (e.prs num).length ≤ 16777216 := by omega
  refine WS_cut (fun ρ S' => S' = S1 ∧ ρ = SE items num (b || e.nul) (F ++ e.fst num) L P (some (.p e.py)) (some (.bl e.nul)) (some (.p (.list (iLs (e.fst num))))) (some (.p (.list (iLs (e.lst num))))) (some (.p (prP (e.prs num))))) ?_ ?_
  · simp -implicitDefEqProofs only [DL.wpW, reduceIte, Nat.reduceAdd, Nat.reduceLeDiff, DL.sFor_ap, List.length_map, z1, iLs_app]
    all_goals exact ⟨by trivial, by trivial⟩
  rintro ρ S' ⟨rfl, rfl⟩
  refine WS_cut (fun ρ S1 => S1 = S' ∧ ρ = SE items num (b || e.nul) (F ++ e.fst num) (L ++ e.lst num) P (some (.p e.py)) (some (.bl e.nul)) (some (.p (.list (iLs (e.fst num))))) (some (.p (.list (iLs (e.lst num))))) (some (.p (prP (e.prs num))))) ?_ ?_
  · simp -implicitDefEqProofs only [DL.wpW, reduceIte, Nat.reduceAdd, Nat.reduceLeDiff, DL.sFor_ap, List.length_map, z2, iLs_app]
    all_goals exact ⟨by trivial, by trivial⟩
  rintro ρ S1 ⟨rfl, rfl⟩
  refine WS_cut (fun ρ S' => S' = S1 ∧ ρ = SE items num (b || e.nul) (F ++ e.fst num) (L ++ e.lst num) (P ++ e.prs num) (some (.p e.py)) (some (.bl e.nul)) (some (.p (.list (iLs (e.fst num))))) (some (.p (.list (iLs (e.lst num))))) (some (.p (prP (e.prs num))))) ?_ ?_
  · simp -implicitDefEqProofs only [DL.wpW, reduceIte, Nat.reduceAdd, Nat.reduceLeDiff, DL.sFor_ap, List.length_map, z3]
    all_goals exact ⟨by trivial, by simp [prP]⟩
  rintro ρ S' ⟨rfl, rfl⟩
  simp -implicitDefEqProofs only [DL.wpW, reduceIte, Nat.reduceAdd, Nat.reduceLeDiff, DL.sFor_ap]
  refine places_wp e 6 h2 (by omega) hc ?_
  have z : ((num + 1 : Nat) : Int) + (e.cnt : Nat) = ((num + e.cnt + 1 : Nat) : Int) := by omega
  simp -implicitDefEqProofs only [DL.wpW, reduceIte, Nat.reduceAdd, Nat.reduceLeDiff, DL.sFor_ap, List.length_map, e.plc_len, z]
  exact ⟨by trivial, _, _, _, _, rfl⟩
theorem och_wp {g : FD} {a b : Ex} (Ha : OutSpec g a) (Hb : OutSpec g b) (h1 : a.cnt + b.cnt ≤ 8) (h2 : a.dep < 6 ∧ b.dep < 6) (k : Nat) (hc : ClS 0 S) (q : Q (.p ((Ex.ch a b).out k)) S) :
    WE (G_outline_of_choice g [.p (.tuple [a.py, b.py]), .int ((k + 1 : Nat) : Int)] S) Q E := by
  refine WE_def (fun d S' => d = .p ((Ex.ch a b).out k) ∧ S' = S) ?_ (fun d S' ⟨e1, e2⟩ => ⟨_, S, [], e1, by rw [e2, List.append_nil], rfl, hc, q⟩)
  rw [show start0 NN_outline_of_choice [.p (.tuple [a.py, b.py]), .int ((k + 1 : Nat) : Int)] = [some (.p (.tuple [a.py, b.py])), some (.int ((k + 1 : Nat) : Int)), none, none, none, none, none, none, none, none, none] from rfl]
  unfold B_outline_of_choice
  obtain ⟨s1, s2, s3⟩ := a.short (by omega) h2.1 k
  refine WS_cut (fun ρ S' => S' = S ∧ ρ = SE (.tuple [a.py, b.py]) k false [] [] [] none none none none none) ?_ ?_
  · simp -implicitDefEqProofs only [DL.wpW, reduceIte, Nat.reduceAdd, Nat.reduceLeDiff, DL.sFor_ap]
    all_goals exact ⟨by trivial, by trivial⟩
  rintro ρ S' ⟨rfl, rfl⟩
  refine WS_cut (fun ρ S1 => S1 = S' ∧ ∃ v2 v7 v8 v9 v10, ρ = SE (.tuple [a.py, b.py]) (k + a.cnt + b.cnt) (Ex.ch a b).nul ((Ex.ch a b).fst k) ((Ex.ch a b).lst k) ((Ex.ch a b).prs k) v2 v7 v8 v9 v10) ?_ ?_
  · simp -implicitDefEqProofs only [DL.wpW, reduceIte, Nat.reduceAdd, Nat.reduceLeDiff, DL.sFor_ap, List.map_cons, List.map_nil]
    refine WS_for (fun i ρ S1 => S1 = S' ∧ ((i = 0 ∧ ρ = SE (.tuple [a.py, b.py]) k false [] [] [] none none none none none) ∨ (i = 1 ∧ ∃ v2 v7 v8 v9 v10, ρ = SE (.tuple [a.py, b.py]) (k + a.cnt) a.nul (a.fst k) (a.lst k) (a.prs k) v2 v7 v8 v9 v10) ∨
      (i = 2 ∧ ∃ v2 v7 v8 v9 v10, ρ = SE (.tuple [a.py, b.py]) (k + a.cnt + b.cnt) (Ex.ch a b).nul ((Ex.ch a b).fst k) ((Ex.ch a b).lst k) ((Ex.ch a b).prs k) v2 v7 v8 v9 v10))) _ 0 _ _ ⟨rfl, .inl ⟨rfl, rfl⟩⟩ ?_ ?_
    · rintro i d ρ S1 hd ⟨rfl, (⟨hi, rfl⟩ | ⟨hi, v2, v7, v8, v9, v10, rfl⟩ | ⟨hi, v2, v7, v8, v9, v10, rfl⟩)⟩
      · have hi : i = 0 := by omega
        subst hi
        cases hd
        simp only [gNm_ap, WE_ok, List.set_cons_succ, List.set_cons_zero]
        refine WS_mono (ch_body (items := .tuple [a.py, b.py]) (num := k) (b := false) (F := []) (L := []) (P := []) Ha (by omega) h2.1 hc (by simp) (by simp) (by simp)) (fun ρ S2 h => ?_) (fun _ _ z => z.elim) (fun _ _ z => z.elim) (fun _ _ z => z.elim) (fun _ _ _ z => z.elim)
        obtain ⟨rfl, v7, v8, v9, v10, rfl⟩ := h
        refine ⟨trivial, by trivial, .inr (.inl ⟨by trivial, some (.p a.py), v7, v8, v9, v10, ?_⟩)⟩
        simp
      · have hi : i = 1 := by omega
        subst hi
        cases hd
        simp only [gNm_ap, WE_ok, List.set_cons_succ, List.set_cons_zero]
        refine WS_mono (ch_body (items := .tuple [a.py, b.py]) (num := k + a.cnt) (b := a.nul) (F := a.fst k) (L := a.lst k) (P := a.prs k) Hb (by omega) h2.2 hc (by omega) (by omega) (by omega)) (fun ρ S2 h => ?_) (fun _ _ z => z.elim) (fun _ _ z => z.elim) (fun _ _ z => z.elim) (fun _ _ _ z => z.elim)
        obtain ⟨rfl, v7, v8, v9, v10, rfl⟩ := h
        exact ⟨trivial, by trivial, .inr (.inr ⟨by trivial, some (.p b.py), v7, v8, v9, v10, rfl⟩)⟩
      · have hi : i = 2 := by omega
        subst hi
        cases hd
    · rintro ρ S1 ⟨rfl, (⟨hi, _⟩ | ⟨hi, _⟩ | ⟨hi, v2, v7, v8, v9, v10, rfl⟩)⟩
      · cases hi
      · cases hi
      · exact ⟨rfl, v2, v7, v8, v9, v10, rfl⟩
  rintro ρ S1 ⟨rfl, v2, v7, v8, v9, v10, rfl⟩
  simp -implicitDefEqProofs only [DL.wpW, reduceIte, Nat.reduceAdd, Nat.reduceLeDiff, DL.sFor_ap]
  all_goals exact ⟨by trivial, by trivial⟩
theorem g4_out {v0 v1 : Option D} {b : Bool} {F L : List Nat} {P : List (Nat × Nat)} {S : Sto} : nxG (gTupD 4 (gsCons (gNm 2) (gsCons (gNm 3) (gsCons (gNm 4) (gsCons (gNm 5) gsNil)))) (.p (outP b F L P)) [v0, v1, none, none, none, none] S) =
    .nx [v0, v1, some (.bl b), some (.p (.list (iLs F))), some (.p (.list (iLs L))), some (.p (prP P))] S := rfl
theorem outline_wp : ∀ (e : Ex) (f : Nat), e.dep < f → e.cnt ≤ 8 → e.dep < 6 → OutSpec (G_outline f) e := by
  intro e
  induction e with
  | pl p lo hi c =>
    intro f hf h1 h2 k S Q E hc q
    obtain ⟨f, rfl⟩ : ∃ f', f = f' + 1 := ⟨f - 1, by omega⟩
    refine WE_def (fun d S' => d = .p ((Ex.pl p lo hi c).out k) ∧ S' = S) ?_ (fun d S' ⟨e1, e2⟩ => ⟨_, S, [], e1, by rw [e2, List.append_nil], rfl, hc, q⟩)
    rw [show start0 NN_outline [.p (Ex.pl p lo hi c).py, .int ((k + 1 : Nat) : Int)] = [some (.p (Ex.pl p lo hi c).py), some (.int ((k + 1 : Nat) : Int)), none, none, none, none] from rfl]
    unfold B_outline
    simp -implicitDefEqProofs only [DL.wpW, reduceIte, Nat.reduceAdd, Nat.reduceLeDiff, DL.sFor_ap, Ex.py, beq_self_eq_true]
    exact ⟨by trivial, by trivial⟩
  | sq a b iha ihb =>
    intro f hf h1 h2 k S Q E hc q
    obtain ⟨f, rfl⟩ : ∃ f', f = f' + 1 := ⟨f - 1, by omega⟩
    have hd : a.dep < f ∧ b.dep < f ∧ a.dep < 6 ∧ b.dep < 6 := by simp only [Ex.dep] at hf h2; omega
    have hcn : a.cnt + b.cnt ≤ 8 := h1
    refine WE_def (fun d S' => d = .p ((Ex.sq a b).out k) ∧ S' = S) ?_ (fun d S' ⟨e1, e2⟩ => ⟨_, S, [], e1, by rw [e2, List.append_nil], rfl, hc, q⟩)
    rw [show start0 NN_outline [.p (Ex.sq a b).py, .int ((k + 1 : Nat) : Int)] = [some (.p (Ex.sq a b).py), some (.int ((k + 1 : Nat) : Int)), none, none, none, none] from rfl]
    unfold B_outline
    simp -implicitDefEqProofs only [DL.wpW, reduceIte, Nat.reduceAdd, Nat.reduceLeDiff, DL.sFor_ap, Ex.py, e2, beq_self_eq_true]
    refine oseq_wp (iha f hd.1 (by omega) hd.2.2.1) (ihb f hd.2.1 (by omega) hd.2.2.2) hcn ⟨hd.2.2.1, hd.2.2.2⟩ k hc ?_
    try simp -implicitDefEqProofs only [DL.wpW, reduceIte, Nat.reduceAdd, Nat.reduceLeDiff, DL.sFor_ap]
    all_goals exact ⟨by trivial, by trivial⟩
  | ch a b iha ihb =>
    intro f hf h1 h2 k S Q E hc q
    obtain ⟨f, rfl⟩ : ∃ f', f = f' + 1 := ⟨f - 1, by omega⟩
    have hd : a.dep < f ∧ b.dep < f ∧ a.dep < 6 ∧ b.dep < 6 := by simp only [Ex.dep] at hf h2; omega
    have hcn : a.cnt + b.cnt ≤ 8 := h1
    refine WE_def (fun d S' => d = .p ((Ex.ch a b).out k) ∧ S' = S) ?_ (fun d S' ⟨e1, e2⟩ => ⟨_, S, [], e1, by rw [e2, List.append_nil], rfl, hc, q⟩)
    rw [show start0 NN_outline [.p (Ex.ch a b).py, .int ((k + 1 : Nat) : Int)] = [some (.p (Ex.ch a b).py), some (.int ((k + 1 : Nat) : Int)), none, none, none, none] from rfl]
    unfold B_outline
    simp -implicitDefEqProofs only [DL.wpW, reduceIte, Nat.reduceAdd, Nat.reduceLeDiff, DL.sFor_ap, Ex.py, e3, h3, beq_self_eq_true]
    refine och_wp (iha f hd.1 (by omega) hd.2.2.1) (ihb f hd.2.1 (by omega) hd.2.2.2) hcn ⟨hd.2.2.1, hd.2.2.2⟩ k hc ?_
    try simp -implicitDefEqProofs only [DL.wpW, reduceIte, Nat.reduceAdd, Nat.reduceLeDiff, DL.sFor_ap]
    all_goals exact ⟨by trivial, by trivial⟩
  | an a iha =>
    intro f hf h1 h2 k S Q E hc q
    obtain ⟨f, rfl⟩ : ∃ f', f = f' + 1 := ⟨f - 1, by omega⟩
    have hd : a.dep < f ∧ a.dep < 6 := by simp only [Ex.dep] at hf h2; omega
    obtain ⟨s1, s2, s3⟩ := a.short h1 hd.2 k
    have hz : (a.lst k).length * (a.fst k).length ≤ 8 * 8 := Nat.mul_le_mul s2 s1
    refine WE_def (fun d S' => d = .p ((Ex.an a).out k) ∧ S' = S) ?_ (fun d S' ⟨e1, e2⟩ => ⟨_, S, [], e1, by rw [e2, List.append_nil], rfl, hc, q⟩)
    rw [show start0 NN_outline [.p (Ex.an a).py, .int ((k + 1 : Nat) : Int)] = [some (.p (Ex.an a).py), some (.int ((k + 1 : Nat) : Int)), none, none, none, none] from rfl]
    unfold B_outline
    simp -implicitDefEqProofs only [DL.wpW, reduceIte, Nat.reduceAdd, Nat.reduceLeDiff, DL.sFor_ap, Ex.py, e4, h4, m4]
    refine iha f hd.1 h1 hd.2 k hc ?_
    simp -implicitDefEqProofs only [DL.wpW, reduceIte, Nat.reduceAdd, Nat.reduceLeDiff, DL.sFor_ap, g4_out, Ex.py, n4, beq_self_eq_true]
    cases a.nul
    all_goals
      simp -implicitDefEqProofs only [DL.wpW, reduceIte, Nat.reduceAdd, Nat.reduceLeDiff, DL.sFor_ap]
      refine all_pairs_wp hc (by omega) ?_
      have z2 : (a.prs k).length + (a.lst k).length * (a.fst k).length ≤ 16777216 := by omega
      simp -implicitDefEqProofs only [DL.wpW, reduceIte, Nat.reduceAdd, Nat.reduceLeDiff, DL.sFor_ap, List.length_map, prodL_len, z2]
      exact ⟨by simp [Ex.out, outP, prP, Ex.nul, Ex.lst, Ex.prs, Ex.num, NT.ends]; rfl, by trivial⟩
  | so a iha =>
    intro f hf h1 h2 k S Q E hc q
    obtain ⟨f, rfl⟩ : ∃ f', f = f' + 1 := ⟨f - 1, by omega⟩
    have hd : a.dep < f ∧ a.dep < 6 := by simp only [Ex.dep] at hf h2; omega
    obtain ⟨s1, s2, s3⟩ := a.short h1 hd.2 k
    have hz : (a.lst k).length * (a.fst k).length ≤ 8 * 8 := Nat.mul_le_mul s2 s1
    refine WE_def (fun d S' => d = .p ((Ex.so a).out k) ∧ S' = S) ?_ (fun d S' ⟨e1, e2⟩ => ⟨_, S, [], e1, by rw [e2, List.append_nil], rfl, hc, q⟩)
    rw [show start0 NN_outline [.p (Ex.so a).py, .int ((k + 1 : Nat) : Int)] = [some (.p (Ex.so a).py), some (.int ((k + 1 : Nat) : Int)), none, none, none, none] from rfl]
    unfold B_outline
    simp -implicitDefEqProofs only [DL.wpW, reduceIte, Nat.reduceAdd, Nat.reduceLeDiff, DL.sFor_ap, Ex.py, e5, h5, m5]
    refine iha f hd.1 h1 hd.2 k hc ?_
    simp -implicitDefEqProofs only [DL.wpW, reduceIte, Nat.reduceAdd, Nat.reduceLeDiff, DL.sFor_ap, g4_out, Ex.py, n5, n7]
    cases hnu : a.nul
    all_goals
      simp -implicitDefEqProofs only [DL.wpW, reduceIte, Nat.reduceAdd, Nat.reduceLeDiff, DL.sFor_ap]
      refine all_pairs_wp hc (by omega) ?_
      have z2 : (a.prs k).length + (a.lst k).length * (a.fst k).length ≤ 16777216 := by omega
      simp -implicitDefEqProofs only [DL.wpW, reduceIte, Nat.reduceAdd, Nat.reduceLeDiff, DL.sFor_ap, List.length_map, prodL_len, z2]
      exact ⟨by simp [Ex.out, outP, prP, Ex.nul, Ex.lst, Ex.prs, Ex.num, NT.ends, hnu]; rfl, by trivial⟩
  | mb a iha =>
    intro f hf h1 h2 k S Q E hc q
    obtain ⟨f, rfl⟩ : ∃ f', f = f' + 1 := ⟨f - 1, by omega⟩
    have hd : a.dep < f ∧ a.dep < 6 := by simp only [Ex.dep] at hf h2; omega
    refine WE_def (fun d S' => d = .p ((Ex.mb a).out k) ∧ S' = S) ?_ (fun d S' ⟨e1, e2⟩ => ⟨_, S, [], e1, by rw [e2, List.append_nil], rfl, hc, q⟩)
    rw [show start0 NN_outline [.p (Ex.mb a).py, .int ((k + 1 : Nat) : Int)] = [some (.p (Ex.mb a).py), some (.int ((k + 1 : Nat) : Int)), none, none, none, none] from rfl]
    unfold B_outline
    simp -implicitDefEqProofs only [DL.wpW, reduceIte, Nat.reduceAdd, Nat.reduceLeDiff, DL.sFor_ap, Ex.py, e6, h6, m6]
    refine iha f hd.1 h1 hd.2 k hc ?_
    simp -implicitDefEqProofs only [DL.wpW, reduceIte, Nat.reduceAdd, Nat.reduceLeDiff, DL.sFor_ap, g4_out, Ex.py, beq_self_eq_true]
    exact ⟨by trivial, by trivial⟩
end
end My

namespace My
open PySem PySem.Spec PyProof.Rows L2 DL
/-! ### behaviours are the rows -/
abbrev zL (l : List Nat) : List Int := l.map fun n : Nat => (n : Int)
theorem zL_iLs (l : List Nat) : (zL l).map PyData.int = iLs l := by simp [iLs]
theorem zL_inj {a b : List Nat} (h : zL a = zL b) : a = b := by
  have := congrArg (List.map Int.toNat) h
  simpa [List.map_map, Function.comp_def] using this
theorem zL_mem {l : List Nat} {j : Int} : j ∈ zL l ↔ ∃ n : Nat, n ∈ l ∧ (n : Int) = j := by simp [zL]
theorem zL_srt {l : List Nat} (h : l.Pairwise (· < ·)) : (zL l).Pairwise (· < ·) := List.pairwise_map.mpr (h.imp fun h => by omega)
theorem Ex.num_fol1 : ∀ (e : Ex) (k : Nat) (p : Nat × Nat), p ∈ (e.num k).fol → k < p.1 ∧ p.1 ≤ k + e.cnt
  | .pl .., k, p, h => by simp [Ex.num, NT.fol] at h
  | .sq x y, k, p, h => by
    have h1 := x.num_fol1 k p
    have h2 := y.num_fol1 (k + x.cnt) p
    have h3 := x.num_ends true k p.1
    unfold Ex.num NT.fol at h
    simp only [Ex.cnt]
    rcases List.mem_append.mp h with z | z
    · rcases List.mem_append.mp z with z | z
      · have := h1 z; omega
      · have := h2 z; omega
    · have := h3 (mem_prodL z).1; omega
  | .ch x y, k, p, h => by
    have h1 := x.num_fol1 k p
    have h2 := y.num_fol1 (k + x.cnt) p
    unfold Ex.num NT.fol at h
    simp only [Ex.cnt]
    rcases List.mem_append.mp h with z | z
    · have := h1 z; omega
    · have := h2 z; omega
  | .an x, k, p, h => by
    unfold Ex.num NT.fol at h
    rcases List.mem_append.mp h with z | z
    · exact x.num_ends true k p.1 (mem_prodL z).1
    · exact x.num_fol1 k p z
  | .so x, k, p, h => by
    unfold Ex.num NT.fol at h
    rcases List.mem_append.mp h with z | z
    · exact x.num_ends true k p.1 (mem_prodL z).1
    · exact x.num_fol1 k p z
  | .mb x, k, p, h => x.num_fol1 k p h
theorem Ex.fst_srt : ∀ (e : Ex) (k : Nat), (e.fst k).Pairwise (· < ·)
  | .pl .., k => by simp [Ex.fst, Ex.num, NT.ends]
  | .sq x y, k => by
    have h1 := x.fst_srt k
    have h2 := y.fst_srt (k + x.cnt)
    simp only [Ex.fst, Ex.num, NT.ends, Bool.false_eq_true, if_false] at h1 h2 ⊢
    refine List.pairwise_append.mpr ⟨h1, by split <;> first | exact h2 | exact .nil, fun a ha b hb => ?_⟩
    split at hb
    · have := x.num_ends false k a ha
      have := y.num_ends false (k + x.cnt) b hb
      omega
    · cases hb
  | .ch x y, k => by
    have h1 := x.fst_srt k
    have h2 := y.fst_srt (k + x.cnt)
    simp only [Ex.fst, Ex.num, NT.ends, Bool.false_eq_true, if_false] at h1 h2 ⊢
    refine List.pairwise_append.mpr ⟨h1, h2, fun a ha b hb => ?_⟩
    have := x.num_ends false k a ha
    have := y.num_ends false (k + x.cnt) b hb
    omega
  | .an x, k => x.fst_srt k
  | .so x, k => x.fst_srt k
  | .mb x, k => x.fst_srt k
theorem row_srt (e : Ex) (k : Nat) : (rowOf e k).1.Pairwise (· < ·) := List.Pairwise.filter _ List.pairwise_lt_range
theorem row_mem {e : Ex} {k b : Nat} : b ∈ (rowOf e k).1 ↔ (k, b) ∈ PRs e := by
  simp only [rowOf, List.mem_filter, List.mem_range, decide_eq_true_eq]
  exact ⟨fun h => h.2, fun h => ⟨by have := PRs_pos h; omega, h⟩⟩
theorem PRs_0 {e : Ex} {b : Nat} : (0, b) ∈ PRs e ↔ b ∈ e.fst 0 := by
  unfold PRs
  rw [List.mem_append]
  constructor
  · rintro (h | h)
    · obtain ⟨b', hb, e1⟩ := List.mem_map.mp h
      cases e1
      exact hb
    · have := e.num_fol1 0 _ h
      simp only at this
      omega
  · intro h
    exact .inl (List.mem_map.mpr ⟨b, h, rfl⟩)
theorem PRs_k {e : Ex} {k b : Nat} (hk : k ≠ 0) : (k, b) ∈ PRs e ↔ (k, b) ∈ e.prs 0 := by
  unfold PRs
  rw [List.mem_append, e.prs_mem]
  constructor
  · rintro (h | h)
    · obtain ⟨b', hb, e1⟩ := List.mem_map.mp h
      cases e1
      exact absurd rfl hk
    · exact h
  · exact .inr
theorem row_0 (e : Ex) : rowOf e 0 = (e.fst 0, e.nul) := by
  have h : (rowOf e 0).1 = e.fst 0 := zL_inj (sorted_one (zL_srt (row_srt e 0)) (zL_srt (e.fst_srt 0)) fun j => by
    rw [zL_mem, zL_mem]
    exact exists_congr fun n => and_congr_left fun _ => row_mem.trans PRs_0)
  have h2 : (rowOf e 0).2 = e.nul := by simp [rowOf, e.num_null]
  exact Prod.ext h h2
theorem row_k {e : Ex} {k : Nat} (hk : k ≠ 0) {acc : List Int} (hn : acc.Nodup) (hm : ∀ j, j ∈ acc ↔ ∃ b : Nat, (k, b) ∈ e.prs 0 ∧ (b : Int) = j) : (srtI acc).map PyData.int = iLs (rowOf e k).1 ∧ (rowOf e k).2 = decide (k ∈ e.lst 0) := by
  constructor
  · rw [← zL_iLs]
    congr 1
    refine sorted_one (srtI_sorted hn) (zL_srt (row_srt e k)) fun j => ?_
    rw [mem_srtI, hm, zL_mem]
    exact exists_congr fun n => and_congr_left fun _ => (row_mem.trans (PRs_k hk)).symm
  · have : k ∈ (e.num 0).ends true ↔ k ∈ e.lst 0 := (e.lst_mem 0 k).symm
    simp [rowOf, hk, this]
def bhP (r : Row) : PyData := .tuple [.bool r.2, .tuple (iLs r.1)]
theorem bhP_eqv (a b : Row) : PyData.eqv (bhP a) (bhP b) = decide (a = b) := by
  obtain ⟨a1, a2⟩ := a
  obtain ⟨b1, b2⟩ := b
  have e : PyData.eqv (bhP (a1, a2)) (bhP (b1, b2)) = ((a2 == b2) && (PyData.eqvAll (iLs a1) (iLs b1) && true)) := by simp only [bhP, PyData.eqv, PyData.eqvAll]
  rw [e, iLs_eqv, Bool.eq_iff_iff]
  simp only [Bool.and_eq_true, beq_iff_eq, decide_eq_true_eq, Prod.mk.injEq, and_true]
  exact And.comm
theorem bhP_lay (r : Row) : PyData.canLay0 (bhP r) = true ∧ PyData.depth (bhP r) ≤ 2 := by
  have h := iLs_lay r.1
  constructor
  · simp only [bhP, PyData.canLay0, PyData.canLayAll0, h.1, Bool.and_self]
  · simp only [bhP, PyData.depth, PyData.depthAll]
    omega
theorem bhs_lay : ∀ l : List Row, PyData.canLayAll0 (l.map bhP) = true ∧ PyData.depthAll (l.map bhP) ≤ 2
  | [] => by simp [PyData.canLayAll0, PyData.depthAll]
  | r :: l => by
    have h1 := bhP_lay r
    have h2 := bhs_lay l
    simp only [List.map_cons, PyData.canLayAll0, PyData.depthAll, h1.1, h2.1, Bool.and_self, true_and]
    omega
theorem bhP_sh (r : Row) : SeqAt.shaped (bhP r) = true := shaped_of (bhP_lay r).1 (bhP_lay r).2 (by decide)
theorem bhs_sh (l : List Row) : SeqAt.shaped (.list (l.map bhP)) = true := by
  have h := bhs_lay l
  refine shaped_of (k := 3) (by simp only [PyData.canLay0]; exact h.1) ?_ (by decide)
  simp only [PyData.depth]
  omega
theorem any_bhs (r : Row) (l : List Row) : ((l.map bhP).any fun z => PyData.eqv z (bhP r)) = decide (r ∈ l) := by
  rw [List.any_map, Bool.eq_iff_iff]
  simp only [List.any_eq_true, Function.comp_apply, bhP_eqv, decide_eq_true_eq]
  constructor
  · rintro ⟨a, h, rfl⟩; exact h
  · intro h; exact ⟨r, h, rfl⟩
theorem ixB_find {r : Row} : ∀ {l : List Row}, r ∈ l → (l.map bhP).findIdx? (fun z => PyData.eqv z (bhP r)) = some (ixR r l)
  | x :: l, h => by
    rw [List.map_cons, List.findIdx?_cons, bhP_eqv]
    unfold ixR
    by_cases e : x = r
    · simp [e]
    · rw [decide_eq_false e, if_neg e, ixB_find ((List.mem_cons.mp h).resolve_left fun z => e z.symm)]
      rfl
theorem gIdx_bhs {r : Row} {l : List Row} {S : Sto} {n : Nat} (h : S[n]? = some (dL (l.map bhP))) (hr : r ∈ l) : gIdx (.ob n) [.p (bhP r)] S = .ok (.int (ixR r l)) S := by
  have vl : vList S (.ob n) = some (l.map bhP) := by
    show (match S[n]? with | some (.lst l) => pAll l | some (.fz l) => some l | _ => none) = _
    rw [h]
    exact pAll_map _
  have e4 : pNow S (.p (bhP r)) = some (bhP r) := rfl
  unfold gIdx
  simp only [vl, e4]
  rw [if_pos ⟨bhs_sh l, bhP_sh r⟩, ixB_find hr]
/-! a set of numbers -/
theorem WE_lcSI {g : GD} {c : BD} {f : ED} {chk : Sto → Prop} {ρ0 : DL.Env} {Q : D → Sto → Prop} {E : Xc → Sto → Prop} (I : Nat → List Int → Sto → Prop) : ∀ (ds : List D) (k : Nat) (acc : List Int) (S : Sto), I k acc S →
    (∀ i d acc S, ds[i]? = some d → I (k + i) acc S → WE (g d ρ0 S) (fun ρ1 S1 => WE (c ρ1 S1) (fun b S2 => if b = true then WE (f ρ1 S2) (fun y S3 => ∃ j, y = .p (.int j) ∧ acc.length + 1 < 64 ∧ chk S3 ∧ I (k + i + 1) (addS acc j) S3) (fun _ _ => False) else chk S2 ∧ I (k + i + 1) acc S2) (fun _ _ => False)) (fun _ _ => False)) →
    (∀ acc S, I (k + ds.length) acc S → Q (.lst ((srtI acc).map .int)) S) → WE (okSI (lcSI g c f chk ρ0 ds acc S)) Q E
  | [], k, acc, S, h0, _, hn => hn acc S h0
  | d :: ds, k, acc, S, h0, hs, hn => by
    have q := hs 0 d acc S rfl h0
    have ih := fun acc2 S2 h => WE_lcSI (g := g) (c := c) (f := f) (chk := chk) (ρ0 := ρ0) (Q := Q) (E := E) I ds (k + 1) acc2 S2 h (fun i d ρ S e h => by
        have := hs (i + 1) d ρ S e (by rw [show k + (i + 1) = k + 1 + i by omega]; exact h)
        rw [show k + (i + 1) = k + 1 + i by omega] at this
        exact this) (fun ρ S h => hn ρ S (by rw [List.length_cons, show k + (ds.length + 1) = k + 1 + ds.length by omega]; exact h))
    unfold lcSI
    cases e : g d ρ0 S with
    | st => rw [e] at q; exact q.elim
    | ex x S1 => rw [e] at q; exact q.elim
    | ok ρ1 S1 =>
      rw [e] at q
      have q : WE (c ρ1 S1) _ _ := q
      dsimp only
      cases e2 : c ρ1 S1 with
      | st => rw [e2] at q; exact q.elim
      | ex x S1 => rw [e2] at q; exact q.elim
      | ok b S2 =>
        rw [e2] at q
        cases b with
        | false =>
          have q : chk S2 ∧ _ := q
          dsimp only
          rw [if_pos q.1]
          exact ih _ _ q.2
        | true =>
          have q : WE (f ρ1 S2) _ _ := q
          dsimp only
          cases e3 : f ρ1 S2 with
          | st => rw [e3] at q; exact q.elim
          | ex x S1 => rw [e3] at q; exact q.elim
          | ok y S3 =>
            rw [e3] at q
            obtain ⟨j, rfl, h1, h2, h3⟩ := q
            dsimp only
            rw [if_pos ⟨h1, h2⟩]
            exact ih _ _ h3
theorem eSrtI_ap {fi : DL.Env → Sto → Rs IDt} {g : GD} {c : BD} {f : ED} {vs : List Nat} {ρ : DL.Env} {S : Sto} : eSrtI fi g c f vs ρ S = (fi ρ S).bind fun d S1 => okSI (lcSI g c f d.2 (wipeE ρ vs) d.1 [] S1) := rfl
end My

namespace My
open PySem PySem.Spec PyProof.Rows L2 DL
section
variable {S : Sto} {Q : D → Sto → Prop} {E : Xc → Sto → Prop}
abbrev RQ (e : Ex) (v2 v3 v4 v5 v6 v7 v12 v13 v14 v15 v16 v17 v18 : Option D) : DL.Env :=
  [some (.p e.py), some (.p (plP e)), v2, v3, v4, v5, v6, v7, some (.bl e.nul), some (.p (.list (iLs (e.fst 0)))), some (.p (.list (iLs (e.lst 0)))), some (.p (prP (e.prs 0))), v12, v13, v14, v15, v16, v17, v18, none, none, none]
abbrev behs (e : Ex) (i : Nat) : List Row := (List.range i).map (rowOf e)
theorem g5_pl {e : Ex} {v2 v3 v4 v5 v6 v7 v12 v13 v14 v15 v16 v17 v18 : Option D} {pl : Pl4} {S : Sto} : nxG (gTupD 5 (gsCons (gNm 14) (gsCons (gNm 15) (gsCons (gNm 16) (gsCons (gNm 17) (gsCons (gNm 18) gsNil))))) (.p pl.py) (RQ e v2 v3 v4 v5 v6 v7 v12 v13 v14 v15 v16 v17 v18) S) =
    .nx (RQ e v2 v3 v4 v5 v6 v7 v12 v13 (some (.p (.str "place"))) (some (.int pl.p)) (some (.int pl.lo)) (some (.int pl.hi)) (some (.int pl.c))) S := rfl
theorem beh_ok {e : Ex} {k : Nat} {v7 v3 v4 v5 v6 v12 v13 v14 v15 v16 v17 v18 : Option D} (h1 : e.cnt ≤ 8) (h2 : e.dep < 6) (hc : ClS 0 S) (hk : k ≠ 0) (hk2 : k ≤ e.cnt) :
    WS ((sSeq (sSet 12 (eSrtI (iLst (eVar 11)) ((gTupD 2 (gNms [20, 21]))) (asB (eBin (gEq false) (eVar 20) (eVar 3))) (eVar 21) [20, 21])) (sExpr (eMth gApp (eVar 2) (aCons (eTup (aCons (eBin (gInA false) (eVar 3) (eVar 10)) (aCons (eB gToTup (aCons (eVar 12) (aNil))) (aNil)))) (aNil)))))
      (RQ e (some (.ob S.length)) (some (.int (k : Nat))) v4 v5 v6 v7 v12 v13 v14 v15 v16 v17 v18) (S ++ [dL ((behs e k).map bhP)]))
      (Qn fun ρ S' => S' = S ++ [dL ((behs e (k + 1)).map bhP)] ∧ ∃ v12, ρ = RQ e (some (.ob S.length)) (some (.int (k : Nat))) v4 v5 v6 v7 v12 v13 v14 v15 v16 v17 v18) := by
  obtain ⟨s1, s2, s3⟩ := e.short h1 h2 0
  refine WS_cut (fun ρ S' => S' = S ++ [dL ((behs e k).map bhP)] ∧ (rowOf e k).2 = decide (k ∈ e.lst 0) ∧ ρ = RQ e (some (.ob S.length)) (some (.int (k : Nat))) v4 v5 v6 v7 (some (.p (.list (iLs (rowOf e k).1)))) v13 v14 v15 v16 v17 v18) ?_ ?_
  · simp -implicitDefEqProofs only [DL.wpW, reduceIte, Nat.reduceAdd, Nat.reduceLeDiff, DL.sFor_ap, eSrtI_ap]
    rw [show wipeE (RQ e (some (.ob S.length)) (some (.int (k : Nat))) v4 v5 v6 v7 v12 v13 v14 v15 v16 v17 v18) [20, 21] = RQ e (some (.ob S.length)) (some (.int (k : Nat))) v4 v5 v6 v7 v12 v13 v14 v15 v16 v17 v18 from rfl]
    refine WE_lcSI (fun i acc S' => S' = S ++ [dL ((behs e k).map bhP)] ∧ acc.Nodup ∧ (∀ j ∈ acc, ∃ b : Nat, b < 9 ∧ (b : Int) = j) ∧ ∀ j, j ∈ acc ↔ ∃ b : Nat, (k, b) ∈ (e.prs 0).take i ∧ (b : Int) = j) _ 0 _ _ ⟨rfl, List.nodup_nil, (fun j hj => absurd hj (by simp)), (fun j => by simp)⟩ ?_ ?_
    · rintro i d acc S' hd ⟨rfl, hnd, hsm, hmem⟩
      rw [List.map_map, List.getElem?_map] at hd
      cases ep : (e.prs 0)[i]? with
      | none => rw [ep] at hd; cases hd
      | some p =>
        rw [ep] at hd
        cases hd
        rw [Nat.zero_add] at hmem ⊢
        have hpm : p ∈ e.prs 0 := List.mem_of_getElem? ep
        have hpb := e.num_fol 0 p ((e.prs_mem 0 p).mp hpm)
        have tk : (e.prs 0).take (i + 1) = (e.prs 0).take i ++ [p] := by rw [List.take_succ, ep]; rfl
        have hal : acc.length ≤ 9 := by
          have z := nodup_le (m := zL (List.range 9)) hnd fun x hx => by
            obtain ⟨b, hb, rfl⟩ := hsm x hx
            exact zL_mem.mpr ⟨b, List.mem_range.mpr hb, rfl⟩
          simpa using z
        have gt : ∀ ρ S, (gTupD 2 (gNms [20, 21])) (.p (pD p)) ρ S = .ok ((ρ.set 20 (some (.int p.1))).set 21 (some (.int p.2))) S := fun _ _ => rfl
        by_cases hpk : p.1 = k
        · have eb : ((p.1 : Int) == (k : Int)) = true := by rw [hpk]; exact beq_self_eq_true _
          simp -implicitDefEqProofs only [DL.wpW, reduceIte, Nat.reduceAdd, Nat.reduceLeDiff, DL.sFor_ap, Function.comp_apply, gt, eb]
          refine ⟨_, rfl, by omega, trivial, by trivial, addS_nodup hnd, fun j hj => ?_, fun j => ?_⟩
          · rcases mem_addS.mp hj with z | z
            · exact hsm j z
            · exact ⟨p.2, by omega, z.symm⟩
          · rw [mem_addS, hmem, tk]
            constructor
            · rintro (⟨b, hb, e1⟩ | rfl)
              · exact ⟨b, List.mem_append_left _ hb, e1⟩
              · exact ⟨p.2, List.mem_append_right _ (by rw [← hpk]; exact List.mem_singleton.mpr rfl), rfl⟩
            · rintro ⟨b, hb, e1⟩
              rcases List.mem_append.mp hb with z | z
              · exact .inl ⟨b, z, e1⟩
              · have := List.mem_singleton.mp z
                rw [← this]
                exact .inr e1.symm
        · have eb : ((p.1 : Int) == (k : Int)) = false := beq_eq_false_iff_ne.mpr (by omega)
          simp -implicitDefEqProofs only [DL.wpW, reduceIte, Nat.reduceAdd, Nat.reduceLeDiff, DL.sFor_ap, Function.comp_apply, gt, eb]
          refine ⟨trivial, by trivial, hnd, hsm, fun j => ?_⟩
          rw [hmem, tk]
          constructor
          · rintro ⟨b, hb, e1⟩
            exact ⟨b, List.mem_append_left _ hb, e1⟩
          · rintro ⟨b, hb, e1⟩
            rcases List.mem_append.mp hb with z | z
            · exact ⟨b, z, e1⟩
            · have := List.mem_singleton.mp z
              rw [← this] at hpk
              exact absurd rfl hpk
    · rintro acc S' ⟨rfl, hnd, hsm, hmem⟩
      rw [List.length_map, List.length_map, Nat.zero_add, List.take_length] at hmem
      obtain ⟨r1, r2⟩ := row_k hk hnd hmem
      simp -implicitDefEqProofs only [DL.wpW, reduceIte, Nat.reduceAdd, Nat.reduceLeDiff, DL.sFor_ap]
      exact ⟨by trivial, r2, by rw [r1]⟩
  rintro ρ S' ⟨rfl, hr2, rfl⟩
  have hl : (behs e k).length < 16777216 := by simp; omega
  simp -implicitDefEqProofs only [DL.wpW, reduceIte, Nat.reduceAdd, Nat.reduceLeDiff, DL.sFor_ap, inN, gToTup_l, tg0, ts0, List.length_map, hl, dL_snoc]
  have e3 : PyData.tuple [.bool (decide (k ∈ e.lst 0)), .tuple (iLs (rowOf e k).1)] = bhP (rowOf e k) := by rw [← hr2]; rfl
  rw [if_pos (by rw [List.length_range]; omega), e3]
  exact ⟨by simp [behs, List.range_succ], _, rfl⟩
abbrev T3 (B R : List Row) (M : List Mv) : Sto := [dL (B.map bhP), dL (R.map bhP), dL (M.map Mv.py)]
theorem T3_cl {B R : List Row} {M : List Mv} (hc : ClS 0 S) : ClS 0 (S ++ T3 B R M) := clS_app hc (clS_cons clO_p (clS_cons clO_p (clS_one clO_p)))
theorem moves_ok {e : Ex} {v3 v5 v12 v13 v14 v15 v16 v17 v18 : Option D} (h1 : e.cnt ≤ 8) (hR : ∀ r ∈ rowsU e (e.cnt + 1), ∀ b ∈ r.1, 1 ≤ b ∧ b ≤ e.cnt) (hR2 : ∀ r ∈ rowsU e (e.cnt + 1), r.1.length ≤ e.cnt + 1) (hl : (rowsU e (e.cnt + 1)).length ≤ e.cnt + 1) :
    WS (forL (gNm 7) (sFor (iTpl (eBin gIx (eBin gIx (eVar 4) (eVar 7)) (eC (.int 1)))) (gNm 3) (sSeq (sAsg (eBin gIx (eVar 1) (eBin gSub (eVar 3) (eC (.int 1)))) (gTupD 5 (gsCons (gNm 14) (gsCons (gNm 15) (gsCons (gNm 16) (gsCons (gNm 17) (gsCons (gNm 18) (gsNil)))))))) (sSeq (sSet 13 (eMth gIdx (eVar 4) (aCons (eBin gIx (eVar 2) (eVar 3)) (aNil)))) (sExpr (eMth gApp (eVar 6) (aCons (eTup (aCons (eVar 7) (aCons (eVar 13) (aCons (eVar 15) (aCons (eVar 16) (aCons (eVar 17) (aCons (eVar 18) (aNil)))))))) (aNil))))))) (fun _ => True) (rngL 0 (rowsU e (e.cnt + 1)).length)
      (RQ e (some (.ob S.length)) v3 (some (.ob (S.length + 1))) v5 (some (.ob (S.length + 2))) none v12 v13 v14 v15 v16 v17 v18) (S ++ T3 (behs e (e.cnt + 1)) (rowsU e (e.cnt + 1)) []))
      (Qn fun ρ S' => S' = S ++ T3 (behs e (e.cnt + 1)) (rowsU e (e.cnt + 1)) (machM e) ∧ ∃ v3 v7 v13 v14 v15 v16 v17 v18, ρ = RQ e (some (.ob S.length)) v3 (some (.ob (S.length + 1))) v5 (some (.ob (S.length + 2))) v7 v12 v13 v14 v15 v16 v17 v18) := by
  generalize hRe : rowsU e (e.cnt + 1) = R at hR hR2 hl ⊢
  have hme : machM e = mvsU e R R.length := by rw [← hRe]; rfl
  rw [hme]
  refine WS_for (fun i ρ S' => ∃ v3 v7 v13 v14 v15 v16 v17 v18, (mvsU e R i).length ≤ i * 10 ∧ S' = S ++ T3 (behs e (e.cnt + 1)) R (mvsU e R i) ∧ ρ = RQ e (some (.ob S.length)) v3 (some (.ob (S.length + 1))) v5 (some (.ob (S.length + 2))) v7 v12 v13 v14 v15 v16 v17 v18) _ 0 _ _ ⟨_, _, _, _, _, _, _, _, by simp [mvsU], by simp [mvsU], rfl⟩ ?_ ?_
  · rintro i d ρ S' hd ⟨v3, v7, v13, v14, v15, v16, v17, v18, hml, rfl, rfl⟩
    obtain ⟨hi, rfl⟩ := rngL_get hd
    rw [Nat.zero_add] at hml ⊢
    have er : R[i]? = some R[i] := List.getElem?_eq_getElem hi
    have hrb := hR _ (List.getElem_mem hi)
    have hrl := hR2 _ (List.getElem_mem hi)
    generalize R[i] = r at er hrb hrl
    have gr : ∀ S : Sto, gIx (.p (bhP r)) (.p (.int 1)) S = .ok (.p (.tuple (iLs r.1))) S := fun S => rfl
    simp -implicitDefEqProofs only [DL.wpW, reduceIte, Nat.reduceAdd, Nat.reduceLeDiff, DL.sFor_ap, Int.zero_add, tg, List.getElem?_map, er, gr, List.cons_append, List.nil_append]
    refine WS_for (fun j ρ S' => ∃ v3 v13 v14 v15 v16 v17 v18, S' = S ++ T3 (behs e (e.cnt + 1)) R (mvsU e R i ++ (r.1.take j).map (mvAt e i)) ∧ ρ = RQ e (some (.ob S.length)) v3 (some (.ob (S.length + 1))) v5 (some (.ob (S.length + 2))) (some (.int (i : Nat))) v12 v13 v14 v15 v16 v17 v18) _ 0 _ _ ⟨_, _, _, _, _, _, _, by simp, rfl⟩ ?_ ?_
    · rintro j d ρ S' hd ⟨v3, v13, v14, v15, v16, v17, v18, rfl, rfl⟩
      rw [List.map_map, List.getElem?_map] at hd
      cases eb : r.1[j]? with
      | none => rw [eb] at hd; cases hd
      | some b =>
        rw [eb] at hd
        cases hd
        have hj : j < r.1.length := (List.getElem?_eq_some_iff.mp eb).1
        have hb := hrb b (List.mem_of_getElem? eb)
        have hlp := e.plc_len
        have hbp : b - 1 < e.plc.length := by omega
        have ep : e.plc[b - 1]? = some e.plc[b - 1] := List.getElem?_eq_getElem hbp
        generalize e.plc[b - 1] = pl at ep
        have ebh : (behs e (e.cnt + 1))[b]? = some (rowOf e b) := by
          unfold behs
          rw [List.getElem?_map, List.getElem?_range (by omega)]; rfl
        have hmR : rowOf e b ∈ R := by
          have z : rowOf e b ∈ rowsU e (b + 1) := mem_addR _ _
          obtain ⟨T, h2⟩ := rowsU_ext e (b + 1) (e.cnt + 1 - (b + 1))
          rw [show b + 1 + (e.cnt + 1 - (b + 1)) = e.cnt + 1 by omega, hRe] at h2
          rw [h2]
          exact List.mem_append_left _ z
        have hst : stAt e b = ixR (rowOf e b) R := by rw [← hRe]; exact stAt_of (by omega)
        have eb1 : (b : Int) - 1 = ((b - 1 : Nat) : Int) := by omega
        rw [Nat.zero_add]
        refine WS_cut (fun ρ S' => S' = S ++ T3 (behs e (e.cnt + 1)) R (mvsU e R i ++ (r.1.take j).map (mvAt e i)) ∧ ρ = RQ e (some (.ob S.length)) (some (.int (b : Nat))) (some (.ob (S.length + 1))) v5 (some (.ob (S.length + 2))) (some (.int (i : Nat))) v12 v13 (some (.p (.str "place"))) (some (.int pl.p)) (some (.int pl.lo)) (some (.int pl.hi)) (some (.int pl.c))) ?_ ?_
        · simp -implicitDefEqProofs only [DL.wpW, reduceIte, Nat.reduceAdd, Nat.reduceLeDiff, DL.sFor_ap, Function.comp_apply, List.getElem?_map, eb1, ep, g5_pl]
          all_goals exact ⟨by trivial, by trivial⟩
        rintro ρ S' ⟨rfl, rfl⟩
        have gi := gIdx_bhs (r := rowOf e b) (l := R) (S := S ++ T3 (behs e (e.cnt + 1)) R (mvsU e R i ++ (r.1.take j).map (mvAt e i))) (n := S.length + 1) tg hmR
        have hL : (mvsU e R i ++ (r.1.take j).map (mvAt e i)).length < 16777216 := by
          rw [List.length_append, List.length_map, List.length_take]
          omega
        refine WS_cut (fun ρ S' => S' = S ++ T3 (behs e (e.cnt + 1)) R (mvsU e R i ++ (r.1.take j).map (mvAt e i)) ∧ ρ = RQ e (some (.ob S.length)) (some (.int (b : Nat))) (some (.ob (S.length + 1))) v5 (some (.ob (S.length + 2))) (some (.int (i : Nat))) v12 (some (.int (stAt e b : Nat))) (some (.p (.str "place"))) (some (.int pl.p)) (some (.int pl.lo)) (some (.int pl.hi)) (some (.int pl.c))) ?_ ?_
        · simp -implicitDefEqProofs only [DL.wpW, reduceIte, Nat.reduceAdd, Nat.reduceLeDiff, DL.sFor_ap, tg, tg0, List.getElem?_map, ebh, gi, hst]
          all_goals exact ⟨by trivial, by trivial⟩
        rintro ρ S' ⟨rfl, rfl⟩
        generalize hG : mvsU e R i ++ (r.1.take j).map (mvAt e i) = G at hL
        simp -implicitDefEqProofs only [DL.wpW, reduceIte, Nat.reduceAdd, Nat.reduceLeDiff, DL.sFor_ap, tg, ts, List.length_map, hL, dL_snoc]
        refine ⟨by trivial, _, _, _, _, _, _, _, ?_, rfl⟩
        rw [List.take_succ, eb]
        have em : PyData.tuple [.int (i : Nat), .int (stAt e b : Nat), .int pl.p, .int pl.lo, .int pl.hi, .int pl.c] = (mvAt e i b).py := by
          simp [mvAt, Mv.py, ep]
        simp [T3, em, ← hG]
    · rintro ρ S' ⟨v3, v13, v14, v15, v16, v17, v18, rfl, rfl⟩
      rw [List.length_map, List.length_map, Nat.zero_add, List.take_length]
      have e2 : mvsU e R (i + 1) = mvsU e R i ++ r.1.map (mvAt e i) := by
        unfold mvsU
        rw [List.range_succ, List.flatMap_append]
        simp [mvRow, er]
      refine ⟨by trivial, _, _, _, _, _, _, _, _, ?_, by rw [e2], rfl⟩
      rw [e2, List.length_append, List.length_map]
      omega
  · rintro ρ S' ⟨v3, v7, v13, v14, v15, v16, v17, v18, hml, rfl, rfl⟩
    rw [rngL_length, Nat.zero_add]
    exact ⟨by trivial, _, _, _, _, _, _, _, _, rfl⟩
end
end My

namespace My
open PySem PySem.Spec PyProof.Rows L2 DL
theorem rowsU_mem {e : Ex} {r : Row} : ∀ {n : Nat}, r ∈ rowsU e n → ∃ k, r = rowOf e k
  | n + 1, h => by
    have h : r ∈ addR (rowsU e n) (rowOf e n) := h
    unfold addR at h
    split at h
    · exact rowsU_mem h
    · rcases List.mem_append.mp h with z | z
      · exact rowsU_mem z
      · exact ⟨n, List.mem_singleton.mp z⟩
theorem rowsU_len {e : Ex} : ∀ n, (rowsU e n).length ≤ n
  | 0 => Nat.le_refl _
  | n + 1 => by
    have ih := rowsU_len (e := e) n
    show (addR (rowsU e n) (rowOf e n)).length ≤ _
    unfold addR
    split
    · omega
    · rw [List.length_append, List.length_singleton]; omega
theorem row_b {e : Ex} {r : Row} {n : Nat} (h : r ∈ rowsU e n) : r.1.length ≤ e.cnt + 1 ∧ ∀ b ∈ r.1, 1 ≤ b ∧ b ≤ e.cnt := by
  obtain ⟨k, rfl⟩ := rowsU_mem h
  refine ⟨?_, fun b hb => PRs_pos (row_mem.mp hb)⟩
  have := List.length_filter_le (fun b => decide ((k, b) ∈ PRs e)) (List.range (e.cnt + 1))
  rw [List.length_range] at this
  exact this
section
variable {S : Sto} {Q : D → Sto → Prop} {E : Xc → Sto → Prop}
theorem lItems_d {l : List PyData} {S : Sto} {n : Nat} (h : S[n]? = some (dL l)) : lItems S (.ob n) = some (l.map .p) := by
  unfold lItems
  simp only [h]
theorem pmachine_wp {e : Ex} (h1 : e.cnt ≤ 8) (h2 : e.dep < 6) (hc : ClS 0 S) (q : Q (.p (machP (machE e) (machM e))) S) : WE (G_machine [.p e.py] S) Q E := by
  refine WE_def (fun d S' => d = .p (machP (machE e) (machM e)) ∧ ∃ T, S' = S ++ T) ?_ (fun d S' ⟨e1, T, e2⟩ => ⟨_, S, T, e1, e2, rfl, hc, q⟩)
  rw [show start0 NN_machine [.p e.py] = [some (.p e.py), none, none, none, none, none, none, none, none, none, none, none, none, none, none, none, none, none, none, none, none, none] from rfl]
  unfold B_machine
  refine WS_cut (fun ρ S' => S' = S ∧ ρ = [some (.p e.py), none, none, none, none, none, none, none, some (.bl e.nul), some (.p (.list (iLs (e.fst 0)))), some (.p (.list (iLs (e.lst 0)))), some (.p (prP (e.prs 0))), none, none, none, none, none, none, none, none, none, none]) ?_ ?_
  · simp -implicitDefEqProofs only [DL.wpW, reduceIte, Nat.reduceAdd, Nat.reduceLeDiff, DL.sFor_ap]
    refine outline_wp e 6 h2 h1 h2 0 hc ?_
    try simp -implicitDefEqProofs only [DL.wpW, reduceIte, Nat.reduceAdd, Nat.reduceLeDiff, DL.sFor_ap]
    all_goals exact ⟨by trivial, by trivial⟩
  rintro ρ S' ⟨e1, rfl⟩
  rw [e1]
  clear e1 S'
  refine WS_cut (fun ρ S' => S' = S ∧ ρ = RQ e none none none none none none none none none none none none none) ?_ ?_
  · simp -implicitDefEqProofs only [DL.wpW, reduceIte, Nat.reduceAdd, Nat.reduceLeDiff, DL.sFor_ap]
    refine places_wp e 6 h2 (by omega) hc ?_
    try simp -implicitDefEqProofs only [DL.wpW, reduceIte, Nat.reduceAdd, Nat.reduceLeDiff, DL.sFor_ap]
    all_goals exact ⟨by trivial, by trivial⟩
  rintro ρ S' ⟨e1, rfl⟩
  rw [e1]
  clear e1 S'
  refine WS_cut (fun ρ S' => S' = S ++ [dL ((behs e 1).map bhP)] ∧ ρ = RQ e (some (.ob S.length)) none none none none none none none none none none none none) ?_ ?_
  · have e0 : PyData.tuple [.bool e.nul, .tuple (iLs (e.fst 0))] = bhP (rowOf e 0) := by rw [row_0]; rfl
    simp -implicitDefEqProofs only [DL.wpW, reduceIte, Nat.reduceAdd, Nat.reduceLeDiff, DL.sFor_ap, gToTup_l, e0]
    all_goals exact ⟨by simp [behs]; exact e0, by trivial⟩
  rintro ρ S' ⟨rfl, rfl⟩
  have hlp := e.plc_len
  refine WS_cut (fun ρ S' => S' = S ++ [dL ((behs e (e.cnt + 1)).map bhP)] ∧ ∃ v3 v12, ρ = RQ e (some (.ob S.length)) v3 none none none none v12 none none none none none none) ?_ ?_
  · have b1 : big62 1 = true := big62_of (by decide) (by decide)
    have b2 : big62 ((e.cnt : Int) + 1) = true := big62_of (by omega) (by omega)
    have e3 : ((e.cnt : Int) + 1 - 1).toNat = e.cnt := by omega
    simp -implicitDefEqProofs only [DL.wpW, reduceIte, Nat.reduceAdd, Nat.reduceLeDiff, DL.sFor_ap, List.length_map, hlp, b1, b2, e3]
    refine WS_for (fun i ρ S' => S' = S ++ [dL ((behs e (1 + i)).map bhP)] ∧ ∃ v3 v12, ρ = RQ e (some (.ob S.length)) v3 none none none none v12 none none none none none none) _ 0 _ _ ⟨rfl, none, none, rfl⟩ ?_ ?_
    · rintro i d ρ S' hd ⟨rfl, v3, v12, rfl⟩
      obtain ⟨hi, rfl⟩ := rngL_get hd
      rw [Nat.zero_add]
      rw [show ((1 : Int) + (i : Int)) = ((1 + i : Nat) : Int) by omega]
      simp only [gNm_ap, WE_ok, List.set_cons_succ, List.set_cons_zero]
      refine WS_mono (beh_ok (v3 := none) (k := 1 + i) h1 h2 hc (by omega) (by omega)) (fun ρ S' h => ?_) (fun _ _ z => z.elim) (fun _ _ z => z.elim) (fun _ _ z => z.elim) (fun _ _ _ z => z.elim)
      obtain ⟨rfl, v12, rfl⟩ := h
      exact ⟨by trivial, by rw [show 1 + (i + 1) = 1 + i + 1 by omega], _, _, rfl⟩
    · rintro ρ S' ⟨rfl, v3, v12, rfl⟩
      rw [rngL_length, Nat.zero_add, Nat.add_comm 1]
      exact ⟨rfl, v3, v12, rfl⟩
  rintro ρ S' ⟨rfl, v3, v12, rfl⟩
  refine WS_cut (fun ρ S' => S' = S ++ [dL ((behs e (e.cnt + 1)).map bhP), dL (([] : List Row).map bhP)] ∧ ρ = RQ e (some (.ob S.length)) v3 (some (.ob (S.length + 1))) none none none v12 none none none none none none) ?_ ?_
  · simp -implicitDefEqProofs only [DL.wpW, reduceIte, Nat.reduceAdd, Nat.reduceLeDiff, DL.sFor_ap]
    exact ⟨by simp, by simp⟩
  rintro ρ S' ⟨rfl, rfl⟩
  have hbl : (behs e (e.cnt + 1)).length = e.cnt + 1 := by simp
  refine WS_cut (fun ρ S' => S' = S ++ [dL ((behs e (e.cnt + 1)).map bhP), dL ((rowsU e (e.cnt + 1)).map bhP)] ∧ ∃ v5, ρ = RQ e (some (.ob S.length)) v3 (some (.ob (S.length + 1))) v5 none none v12 none none none none none none) ?_ ?_
  · simp -implicitDefEqProofs only [DL.wpW, reduceIte, Nat.reduceAdd, Nat.reduceLeDiff, DL.sFor_ap, lItems_d (S := S ++ [dL ((behs e (e.cnt + 1)).map bhP), dL (([] : List Row).map bhP)]) (n := S.length) tg0]
    refine WS_for (fun i ρ S' => S' = S ++ [dL ((behs e (e.cnt + 1)).map bhP), dL ((rowsU e i).map bhP)] ∧ ∃ v5, ρ = RQ e (some (.ob S.length)) v3 (some (.ob (S.length + 1))) v5 none none v12 none none none none none none) _ 0 _ _ ⟨rfl, none, rfl⟩ ?_ ?_
    · rintro i d ρ S' hd ⟨rfl, v5, rfl⟩
      rw [List.map_map, List.getElem?_map] at hd
      cases er : (behs e (e.cnt + 1))[i]? with
      | none => rw [er] at hd; cases hd
      | some r =>
        rw [er] at hd
        cases hd
        have hi : i < (behs e (e.cnt + 1)).length := (List.getElem?_eq_some_iff.mp er).1
        rw [hbl] at hi
        have hr : r = rowOf e i := by
          have z : (behs e (e.cnt + 1))[i]? = some (rowOf e i) := by
            unfold behs
            rw [List.getElem?_map, List.getElem?_range hi]; rfl
          rw [z] at er
          exact (Option.some.inj er).symm
        subst hr
        rw [Nat.zero_add]
        have ck : chkOf (.ob S.length) ((behs e (e.cnt + 1)).map bhP |>.map D.p) (S ++ [dL ((behs e (e.cnt + 1)).map bhP), dL ((rowsU e (i + 1)).map bhP)]) := lItems_d tg0
        have gR := inL (neg := true) (d := bhP (rowOf e i)) (l := (rowsU e i).map bhP) (S := S ++ [dL ((behs e (e.cnt + 1)).map bhP), dL ((rowsU e i).map bhP)]) (n := S.length + 1) tg rfl (bhP_sh _) (bhs_sh _)
        rw [any_bhs] at gR
        have hrl := rowsU_len (e := e) i
        have hL : (rowsU e i).length < 16777216 := by omega
        have ext : rowsU e (i + 1) = addR (rowsU e i) (rowOf e i) := rfl
        by_cases hm : rowOf e i ∈ rowsU e i
        · have ex2 : rowsU e (i + 1) = rowsU e i := by rw [ext]; unfold addR; rw [if_pos hm]
          rw [ex2] at ck ⊢
          simp -implicitDefEqProofs only [DL.wpW, reduceIte, Nat.reduceAdd, Nat.reduceLeDiff, DL.sFor_ap, Function.comp_apply, gR, hm, decide_true]
          exact ⟨ck, by trivial, _, rfl⟩
        · have ex2 : rowsU e (i + 1) = rowsU e i ++ [rowOf e i] := by rw [ext]; unfold addR; rw [if_neg hm]
          rw [ex2] at ck ⊢
          simp -implicitDefEqProofs only [DL.wpW, reduceIte, Nat.reduceAdd, Nat.reduceLeDiff, DL.sFor_ap, Function.comp_apply, gR, hm, decide_false, tg, ts, List.length_map, hL, dL_snoc]
          refine ⟨?_, by simp, _, rfl⟩
          simpa using ck
    · rintro ρ S' ⟨rfl, v5, rfl⟩
      rw [List.length_map, List.length_map, Nat.zero_add, hbl]
      exact ⟨rfl, v5, rfl⟩
  rintro ρ S' ⟨rfl, v5, rfl⟩
  refine WS_cut (fun ρ S' => S' = S ++ T3 (behs e (e.cnt + 1)) (rowsU e (e.cnt + 1)) [] ∧ ρ = RQ e (some (.ob S.length)) v3 (some (.ob (S.length + 1))) v5 (some (.ob (S.length + 2))) none v12 none none none none none none) ?_ ?_
  · simp -implicitDefEqProofs only [DL.wpW, reduceIte, Nat.reduceAdd, Nat.reduceLeDiff, DL.sFor_ap]
    exact ⟨by simp, by simp⟩
  rintro ρ S' ⟨rfl, rfl⟩
  have hRl := rowsU_len (e := e) (e.cnt + 1)
  refine WS_cut (fun ρ S' => S' = S ++ T3 (behs e (e.cnt + 1)) (rowsU e (e.cnt + 1)) (machM e) ∧ ∃ v3 v7 v13 v14 v15 v16 v17 v18, ρ = RQ e (some (.ob S.length)) v3 (some (.ob (S.length + 1))) v5 (some (.ob (S.length + 2))) v7 v12 v13 v14 v15 v16 v17 v18) ?_ ?_
  · have bn : big62 ((rowsU e (e.cnt + 1)).length : Int) = true := big62_nat (by omega)
    simp -implicitDefEqProofs only [DL.wpW, reduceIte, Nat.reduceAdd, Nat.reduceLeDiff, DL.sFor_ap, tg, List.length_map, bn, Int.toNat_natCast]
    exact WS_mono (moves_ok h1 (fun r hr => (row_b hr).2) (fun r hr => (row_b hr).1) hRl) (fun ρ S' h => h) (fun _ _ z => z.elim) (fun _ _ z => z.elim) (fun _ _ z => z.elim) (fun _ _ _ z => z.elim)
  rintro ρ S' ⟨rfl, v3, v7, v13, v14, v15, v16, v17, v18, rfl⟩
  have li := lItems_d (S := S ++ T3 (behs e (e.cnt + 1)) (rowsU e (e.cnt + 1)) (machM e)) (n := S.length + 1) (l := (rowsU e (e.cnt + 1)).map bhP) tg
  simp -implicitDefEqProofs only [DL.wpW, reduceIte, Nat.reduceAdd, Nat.reduceLeDiff, DL.sFor_ap, li]
  rw [show wipeE (RQ e (some (.ob S.length)) v3 (some (.ob (S.length + 1))) v5 (some (.ob (S.length + 2))) v7 v12 v13 v14 v15 v16 v17 v18) [19] = RQ e (some (.ob S.length)) v3 (some (.ob (S.length + 1))) v5 (some (.ob (S.length + 2))) v7 v12 v13 v14 v15 v16 v17 v18 from rfl]
  refine WE_lc (fun i acc S' => S' = S ++ T3 (behs e (e.cnt + 1)) (rowsU e (e.cnt + 1)) (machM e) ∧ acc = ((rowsU e (e.cnt + 1)).take i).map fun r => PyData.bool r.2) _ 0 _ _ ⟨rfl, by simp⟩ ?_ ?_
  · rintro i d acc S' hd ⟨rfl, rfl⟩
    rw [List.map_map, List.getElem?_map] at hd
    cases er : (rowsU e (e.cnt + 1))[i]? with
    | none => rw [er] at hd; cases hd
    | some r =>
      rw [er] at hd
      cases hd
      have gr : ∀ S : Sto, gIx (.p (bhP r)) (.p (.int 0)) S = .ok (.p (.bool r.2)) S := fun S => rfl
      rw [Nat.zero_add, List.take_succ, er]
      simp -implicitDefEqProofs only [DL.wpW, reduceIte, Nat.reduceAdd, Nat.reduceLeDiff, DL.sFor_ap, Function.comp_apply, gr]
      refine ⟨_, _, rfl, ?_, li, by trivial, by simp⟩
      rw [List.length_map, List.length_take]
      omega
  · rintro acc S' ⟨rfl, rfl⟩
    rw [List.length_map, List.length_map, Nat.zero_add, List.take_length]
    have g2 := gToTup_d (l := (machM e).map Mv.py) (S := S ++ T3 (behs e (e.cnt + 1)) (rowsU e (e.cnt + 1)) (machM e)) (n := S.length + 2) tg
    simp -implicitDefEqProofs only [DL.wpW, reduceIte, Nat.reduceAdd, Nat.reduceLeDiff, DL.sFor_ap, gToTup_l, g2]
    exact ⟨by simp [machP, machE], _, rfl⟩
end
end My

namespace My
open PySem PySem.Spec PyProof.Rows L2 DL
section
variable {S : Sto} {Q : D → Sto → Prop} {E : Xc → Sto → Prop}
theorem isstrip_wp {pt : Pt} (hc : ClS 0 S) (q : Q (.bl pt.isStrip) S) : WE (G_is_strip [.p pt.py] S) Q E := by
  refine WE_gB ?_
  rw [show start0 NN_is_strip [.p pt.py] = [some (.p pt.py)] from rfl]
  unfold B_is_strip
  cases pt with
  | plain nm lab c k =>
    simp -implicitDefEqProofs only [DL.wpW, reduceIte, Nat.reduceAdd, Nat.reduceLeDiff, DL.sFor_ap, Pt.py, inw x4 x7, x1]
    exact WE_pick rfl hc q
  | shape nm lab c w h rows =>
    simp -implicitDefEqProofs only [DL.wpW, reduceIte, Nat.reduceAdd, Nat.reduceLeDiff, DL.sFor_ap, Pt.py, inw x5 x7, x2]
    exact WE_pick rfl hc q
  | strip ac nm j e =>
    simp -implicitDefEqProofs only [DL.wpW, reduceIte, Nat.reduceAdd, Nat.reduceLeDiff, DL.sFor_ap, Pt.py, inw (x6 ac) x7, x3]
    exact WE_pick rfl hc q
/-- strips of few places, not deep -/
def Pt.small : Pt → Prop
  | .strip _ _ _ e => e.cnt ≤ 8 ∧ e.dep < 6
  | _ => True
theorem PsOk.small {wide strips : Nat} {Ps : List Pt} (hP : PsOk wide strips Ps) : ∀ p ∈ Ps, Pt.small p := by
  obtain ⟨lc, h1, h2, h3, h4, h5⟩ := hP.at
  intro p hp
  obtain ⟨i, hi, rfl⟩ := List.mem_iff_getElem.mp hp
  have ep : Ps[i]? = some Ps[i] := List.getElem?_eq_getElem hi
  generalize Ps[i] = pt at ep
  cases pt with
  | plain _ _ _ _ => trivial
  | shape _ _ _ _ _ _ => trivial
  | strip ac nm j e =>
    by_cases hl : lc ≤ i
    · obtain ⟨ac', nm', j', e', he, hok⟩ := h5 i _ ep hl
      cases he
      have hcn := hok.cnt
      exact ⟨by omega, by omega⟩
    · exact absurd (h4 i _ ep (by omega)) (fun z => z)
theorem machines_wp {Ps : List Pt} (hs : ∀ p ∈ Ps, Pt.small p) (hl : Ps.length < 1000) (hc : ClS 0 S) (q : Q (.p (.tuple ((Ps.map wayOf).map wayP))) S) : WE (G_machines [.p (.tuple (Ps.map Pt.py))] S) Q E := by
  refine WE_def (fun d S' => d = .p (.tuple ((Ps.map wayOf).map wayP)) ∧ S' = S) ?_ (fun d S' ⟨e1, e2⟩ => ⟨_, S, [], e1, by rw [e2, List.append_nil], rfl, hc, q⟩)
  rw [show start0 NN_machines [.p (.tuple (Ps.map Pt.py))] = [some (.p (.tuple (Ps.map Pt.py))), none] from rfl]
  unfold B_machines
  simp -implicitDefEqProofs only [DL.wpW, reduceIte, Nat.reduceAdd, Nat.reduceLeDiff, DL.sFor_ap]
  rw [show wipeE [some (D.p (.tuple (Ps.map Pt.py))), none] [1] = [some (D.p (.tuple (Ps.map Pt.py))), none] from rfl]
  refine WE_lc (fun i acc S' => S' = S ∧ acc = ((Ps.take i).map wayOf).map wayP) _ 0 _ _ ⟨rfl, by simp⟩ ?_ ?_
  · rintro i d acc S' hd ⟨rfl, rfl⟩
    rw [List.map_map, List.getElem?_map] at hd
    cases ep : Ps[i]? with
    | none => rw [ep] at hd; cases hd
    | some pt =>
      rw [ep] at hd
      cases hd
      have hi : i < Ps.length := (List.getElem?_eq_some_iff.mp ep).1
      have hsm := hs pt (List.mem_of_getElem? ep)
      have hL : (((Ps.take (0 + i)).map wayOf).map wayP).length < sizeLine := by rw [List.length_map, List.length_map, List.length_take, sizeLine_eq]; omega
      have fin : ((Ps.take (0 + i)).map wayOf).map wayP ++ [wayP (wayOf pt)] = ((Ps.take (0 + i + 1)).map wayOf).map wayP := by
        rw [Nat.zero_add, List.take_succ, ep]; simp
      simp -implicitDefEqProofs only [DL.wpW, reduceIte, Nat.reduceAdd, Nat.reduceLeDiff, DL.sFor_ap, Function.comp_apply]
      refine isstrip_wp hc ?_
      cases pt with
      | plain nm lab c k =>
        simp -implicitDefEqProofs only [DL.wpW, reduceIte, Nat.reduceAdd, Nat.reduceLeDiff, DL.sFor_ap, Pt.isStrip]
        exact ⟨_, _, rfl, hL, trivial, by trivial, fin⟩
      | shape nm lab c w h rows =>
        simp -implicitDefEqProofs only [DL.wpW, reduceIte, Nat.reduceAdd, Nat.reduceLeDiff, DL.sFor_ap, Pt.isStrip]
        exact ⟨_, _, rfl, hL, trivial, by trivial, fin⟩
      | strip ac nm j e =>
        have g3 : ∀ S : Sto, gIx (.p (Pt.strip ac nm j e).py) (.p (.int 3)) S = .ok (.p e.py) S := fun S => rfl
        simp -implicitDefEqProofs only [DL.wpW, reduceIte, Nat.reduceAdd, Nat.reduceLeDiff, DL.sFor_ap, Pt.isStrip, g3]
        refine pmachine_wp hsm.1 hsm.2 hc ?_
        simp -implicitDefEqProofs only [DL.wpW, reduceIte, Nat.reduceAdd, Nat.reduceLeDiff, DL.sFor_ap]
        exact ⟨_, _, rfl, hL, trivial, by trivial, fin⟩
  · rintro acc S' ⟨rfl, rfl⟩
    rw [List.length_map, List.length_map, Nat.zero_add, List.take_length]
    simp -implicitDefEqProofs only [DL.wpW, reduceIte, Nat.reduceAdd, Nat.reduceLeDiff, DL.sFor_ap, gToTup_l]
    all_goals exact ⟨by trivial, by trivial⟩
end
end My

namespace My
open PySem PySem.Spec PyProof.Rows L2 DL
/-! ### spots that a machine reaches -/
def szs (m : Mv) (left : Nat) : List Nat := (List.range (min m.hi left + 1 - m.lo)).map (m.lo + ·)
theorem mem_szs {m : Mv} {left sz : Nat} : sz ∈ szs m left ↔ m.lo ≤ sz ∧ sz ≤ m.hi ∧ sz ≤ left := by
  unfold szs
  rw [List.mem_map]
  constructor
  · rintro ⟨i, hi, rfl⟩
    have := List.mem_range.mp hi
    omega
  · intro h
    exact ⟨sz - m.lo, List.mem_range.mpr (by omega), by omega⟩
def lkAt (M : List Mv) (st left i : Nat) : List (Nat × Nat) := match M[i]? with
  | some m => if m.o = st then (szs m left).map fun z => (i, z) else []
  | none => []
def lk (M : List Mv) (st left : Nat) : List (Nat × Nat) := (List.range M.length).flatMap (lkAt M st left)
inductive Rch (M : List Mv) (far : Nat) : Nat → Nat → Prop
  | z : Rch M far 0 0
  | s {o st sz : Nat} {m : Mv} : Rch M far o st → m ∈ M → m.o = st → m.lo ≤ sz → sz ≤ m.hi → o + sz ≤ far → Rch M far (o + sz) m.t
/-- a machine of few states, its moves' sizes -/
structure MOk (E : List Bool) (M : List Mv) : Prop where
  e1 : 1 ≤ E.length
  e2 : E.length ≤ 9
  m2 : M.length ≤ 81
  mv : ∀ x ∈ M, x.o < E.length ∧ x.t < E.length ∧ 1 ≤ x.lo ∧ x.lo ≤ x.hi ∧ x.hi ≤ 16
theorem Rch.bd {E : List Bool} {M : List Mv} {far o st : Nat} (h : MOk E M) (r : Rch M far o st) : o ≤ far ∧ st < E.length := by
  induction r with
  | z => exact ⟨Nat.zero_le _, h.e1⟩
  | s r hm ho h1 h2 h3 ih => exact ⟨h3, (h.mv _ hm).2.1⟩
theorem row_in {e : Ex} {k n : Nat} (h : k < n) : rowOf e k ∈ rowsU e n := by
  obtain ⟨T, h2⟩ := rowsU_ext e (k + 1) (n - (k + 1))
  rw [show k + 1 + (n - (k + 1)) = n by omega] at h2
  rw [h2]
  exact List.mem_append_left _ (mem_addR _ _)
theorem mem_machM {e : Ex} {m : Mv} : m ∈ machM e ↔ ∃ i r b, (rowsU e (e.cnt + 1))[i]? = some r ∧ b ∈ r.1 ∧ m = mvAt e i b := by
  unfold machM mvsU mvRow
  rw [List.mem_flatMap]
  constructor
  · rintro ⟨i, hi, hm⟩
    obtain ⟨b, hb, rfl⟩ := List.mem_map.mp hm
    have hi' := List.mem_range.mp hi
    have er : (rowsU e (e.cnt + 1))[i]? = some (rowsU e (e.cnt + 1))[i] := List.getElem?_eq_getElem hi'
    rw [List.getD_eq_getElem?_getD, er, Option.getD_some] at hb
    exact ⟨i, _, b, er, hb, rfl⟩
  · rintro ⟨i, r, b, er, hb, rfl⟩
    refine ⟨i, List.mem_range.mpr (List.getElem?_eq_some_iff.mp er).1, List.mem_map.mpr ⟨b, ?_, rfl⟩⟩
    rw [List.getD_eq_getElem?_getD, er, Option.getD_some]
    exact hb
theorem mv_in {e : Ex} {x : Mv} (h : x ∈ machM e) : x.o < (machE e).length ∧ x.t < (machE e).length ∧ (⟨x.p, x.lo, x.hi, x.c⟩ : Pl4) ∈ e.plc := by
  obtain ⟨i, r, b, er, hb, rfl⟩ := mem_machM.mp h
  have hl : (machE e).length = (rowsU e (e.cnt + 1)).length := by unfold machE; rw [List.length_map]
  have hi := (List.getElem?_eq_some_iff.mp er).1
  have hb2 := (row_b (List.mem_of_getElem? er)).2 b hb
  have hin : rowOf e b ∈ rowsU e (e.cnt + 1) := row_in (by omega)
  have hst : stAt e b = ixR (rowOf e b) (rowsU e (e.cnt + 1)) := stAt_of (by omega)
  refine ⟨by rw [hl]; exact hi, ?_, ?_⟩
  · show stAt e b < _
    rw [hl, hst]
    exact ixR_lt hin
  · have hpl := e.plc_len
    have hlt : b - 1 < e.plc.length := by omega
    have ee : e.plc[b - 1]? = some e.plc[b - 1] := List.getElem?_eq_getElem hlt
    show (⟨(e.plc.getD (b - 1) ⟨0, 0, 0, 0⟩).p, (e.plc.getD (b - 1) ⟨0, 0, 0, 0⟩).lo, (e.plc.getD (b - 1) ⟨0, 0, 0, 0⟩).hi, (e.plc.getD (b - 1) ⟨0, 0, 0, 0⟩).c⟩ : Pl4) ∈ e.plc
    rw [List.getD_eq_getElem?_getD, ee, Option.getD_some]
    exact List.getElem_mem hlt
theorem flat_le2 {α β : Type} {f : α → List β} {B : Nat} : ∀ l : List α, (∀ a ∈ l, (f a).length ≤ B) → (l.flatMap f).length ≤ l.length * B
  | [], _ => by simp
  | a :: l, h => by
    have h1 := h a List.mem_cons_self
    have h2 := flat_le2 l fun x hx => h x (List.mem_cons_of_mem _ hx)
    rw [List.flatMap_cons, List.length_append, List.length_cons, Nat.succ_mul]
    omega
theorem mM_len {e : Ex} (h : e.cnt ≤ 8) : (machM e).length ≤ 81 := by
  unfold machM mvsU
  have hR := rowsU_len (e := e) (e.cnt + 1)
  have := flat_le2 (B := 9) (List.range (rowsU e (e.cnt + 1)).length) (f := mvRow e (rowsU e (e.cnt + 1))) fun i hi => by
    unfold mvRow
    rw [List.length_map]
    have hi' := List.mem_range.mp hi
    rw [List.getD_eq_getElem?_getD, List.getElem?_eq_getElem hi', Option.getD_some]
    have := (row_b (List.getElem_mem hi')).1
    omega
  rw [List.length_range] at this
  have h9 : (rowsU e (e.cnt + 1)).length * 9 ≤ 9 * 9 := Nat.mul_le_mul_right _ (by omega)
  omega
theorem mach_ok {n d : Nat} {e : Ex} (hok : Ex.ok n d e) (h : e.cnt ≤ 8) : MOk (machE e) (machM e) := by
  have hR := rowsU_len (e := e) (e.cnt + 1)
  have hl : (machE e).length = (rowsU e (e.cnt + 1)).length := by unfold machE; rw [List.length_map]
  refine ⟨?_, by omega, mM_len h, fun x hx => ?_⟩
  · rw [hl]
    exact List.length_pos_of_mem (row_in (e := e) (k := 0) (n := e.cnt + 1) (by omega))
  · obtain ⟨h1, h2, h3⟩ := mv_in hx
    have := Ex.plc_ok hok _ h3
    obtain ⟨_, q2, q3, q4, _⟩ := this
    exact ⟨h1, h2, q2, q3, q4⟩
theorem WE_pickTG {S S2 T : Sto} {d : PyData} {Q : D → Sto → Prop} {E : Xc → Sto → Prop} (hl : S2.length = S.length) (hc : ClS S.length S2) (q : Q (.p d) S2) : WE (pick S (S2 ++ T) (.p d)) Q E := by
  unfold pick
  rw [show (S2 ++ T).take S.length = S2 by rw [← hl, List.take_left']; rfl]
  rw [if_pos ⟨by rw [List.length_append]; omega, hc, trivial⟩]
  exact q
/-- as WE_def, where what stands in the store speaks of what stands there -/
theorem WE_defG {N : List Str} {F : SD} {ds : List D} {S : Sto} {Q : D → Sto → Prop} {E : Xc → Sto → Prop} (R : D → Sto → Prop)
    (h : WS (F (start0 N ds) S) ⟨fun _ S' => R .non S', R, fun _ _ => False, fun _ _ => False, fun _ _ _ => False⟩)
    (hR : ∀ d S', R d S' → ∃ p S2 T, d = .p p ∧ S' = S2 ++ T ∧ S2.length = S.length ∧ ClS S.length S2 ∧ Q (.p p) S2) : WE (gB N F ds S) Q E := by
  refine WE_gB (WS_mono h (fun _ S' r => ?_) (fun d S' r => ?_) (fun _ _ z => z.elim) (fun _ _ z => z.elim) (fun _ _ _ z => z.elim))
  · obtain ⟨p, S2, T, e, rfl, h1, h2, q⟩ := hR _ _ r
    show WE (pick S (S2 ++ T) .non) Q E
    rw [e]
    exact WE_pickTG h1 h2 q
  · obtain ⟨p, S2, T, rfl, rfl, h1, h2, q⟩ := hR _ _ r
    exact WE_pickTG h1 h2 q
/-- nothing is dropped: what stood ahead speaks of what is new, or what is told is new -/
theorem WE_pickA {S S2 : Sto} {d : D} {Q : D → Sto → Prop} {E : Xc → Sto → Prop} (hl : S.length ≤ S2.length) (hc : ClS S2.length S2) (hd : ClD S2.length d) (hno : ¬ (ClS S.length (S2.take S.length) ∧ ClD S.length d)) (q : Q d S2) : WE (pick S S2 d) Q E := by
  unfold pick
  rw [if_neg fun z => hno z.2, if_pos ⟨hl, hc, hd⟩]
  exact q
theorem WE_defA {N : List Str} {F : SD} {ds : List D} {S : Sto} {Q : D → Sto → Prop} {E : Xc → Sto → Prop} (R : D → Sto → Prop)
    (h : WS (F (start0 N ds) S) ⟨fun _ S' => R .non S', R, fun _ _ => False, fun _ _ => False, fun _ _ _ => False⟩)
    (hR : ∀ d S', R d S' → S.length ≤ S'.length ∧ ClS S'.length S' ∧ ClD S'.length d ∧ ¬ (ClS S.length (S'.take S.length) ∧ ClD S.length d) ∧ Q d S') : WE (gB N F ds S) Q E := by
  refine WE_gB (WS_mono h (fun _ S' r => ?_) (fun d S' r => ?_) (fun _ _ z => z.elim) (fun _ _ z => z.elim) (fun _ _ _ z => z.elim))
  · obtain ⟨h1, h2, h3, h4, q⟩ := hR _ _ r
    exact WE_pickA h1 h2 h3 h4 q
  · obtain ⟨h1, h2, h3, h4, q⟩ := hR _ _ r
    exact WE_pickA h1 h2 h3 h4 q
section
variable {S : Sto} {Q : D → Sto → Prop} {E : Xc → Sto → Prop}
theorem szs_len {m : Mv} {left : Nat} (h : m.hi ≤ 16) : (szs m left).length ≤ 17 := by
  unfold szs
  rw [List.length_map, List.length_range]
  omega
theorem lkAt_len {M : List Mv} (h : ∀ x ∈ M, x.hi ≤ 16) (st left i : Nat) : (lkAt M st left i).length ≤ 17 := by
  unfold lkAt
  cases e : M[i]? with
  | none => simp
  | some m =>
    simp only
    split
    · rw [List.length_map]; exact szs_len (h m (List.mem_of_getElem? e))
    · simp
theorem lk_len {M : List Mv} (h : ∀ x ∈ M, x.hi ≤ 16) (st left i : Nat) : ((List.range i).flatMap (lkAt M st left)).length ≤ i * 17 := by
  have := flat_le2 (B := 17) (List.range i) (f := lkAt M st left) fun j _ => lkAt_len h st left j
  rwa [List.length_range] at this
theorem rest_top {S : Sto} {l : List PyData} : restD (.ob S.length) (S ++ [dL l]) = some (.list l, S ++ [.fz l]) := by
  unfold restD
  simp only [tg0]
  show (pAll (l.map D.p)).map _ = _
  rw [pAll_map, Option.map_some, ts0]
  rfl
theorem lfrom_wp {EE : List Bool} {M : List Mv} {st left : Nat} (hM : MOk EE M) (hl : left ≤ 100) (hc : ClS S.length S) (q : Q (.p (.list ((lk M st left).map pD))) S) : WE (G_looks_from [.p (.tuple (M.map Mv.py)), .int (st : Nat), .int (left : Nat)] S) Q E := by
  have hhi : ∀ x ∈ M, x.hi ≤ 16 := fun x hx => (hM.mv x hx).2.2.2.2
  refine WE_defG (fun d S' => d = .p (.list ((lk M st left).map pD)) ∧ ∃ T, S' = S ++ T) ?_ (fun d S' ⟨e1, T, e2⟩ => ⟨_, S, T, e1, e2, rfl, hc, q⟩)
  rw [show start0 NN_looks_from [.p (.tuple (M.map Mv.py)), .int (st : Nat), .int (left : Nat)] = [some (.p (.tuple (M.map Mv.py))), some (.int (st : Nat)), some (.int (left : Nat)), none, none, none, none] from rfl]
  unfold B_looks_from
  refine WS_cut (fun ρ S' => S' = S ++ [dL (([] : List (Nat × Nat)).map pD)] ∧ ρ = [some (.p (.tuple (M.map Mv.py))), some (.int (st : Nat)), some (.int (left : Nat)), some (.ob S.length), none, none, none]) ?_ ?_
  · simp -implicitDefEqProofs only [DL.wpW, reduceIte, Nat.reduceAdd, Nat.reduceLeDiff, DL.sFor_ap]
    exact ⟨by simp [dL], by simp⟩
  rintro ρ S' ⟨rfl, rfl⟩
  refine WS_cut (fun ρ S' => S' = S ++ [dL ((lk M st left).map pD)] ∧ ∃ v4 v5 v6, ρ = [some (.p (.tuple (M.map Mv.py))), some (.int (st : Nat)), some (.int (left : Nat)), some (.ob S.length), v4, v5, v6]) ?_ ?_
  · have bn : big62 (M.length : Int) = true := big62_nat (by have := hM.m2; omega)
    simp -implicitDefEqProofs only [DL.wpW, reduceIte, Nat.reduceAdd, Nat.reduceLeDiff, DL.sFor_ap, List.length_map, bn, Int.toNat_natCast]
    refine WS_for (fun i ρ S' => S' = S ++ [dL (((List.range i).flatMap (lkAt M st left)).map pD)] ∧ ∃ v4 v5 v6, ρ = [some (.p (.tuple (M.map Mv.py))), some (.int (st : Nat)), some (.int (left : Nat)), some (.ob S.length), v4, v5, v6]) _ 0 _ _ ⟨rfl, none, none, none, rfl⟩ ?_ ?_
    · rintro i d ρ S' hd ⟨rfl, v4, v5, v6, rfl⟩
      obtain ⟨hi, rfl⟩ := rngL_get hd
      have hi : i < M.length := hi
      have em : M[i]? = some M[i] := List.getElem?_eq_getElem hi
      have hmv := hM.mv _ (List.getElem_mem hi)
      generalize M[i] = mo at em hmv
      have hlk : lkAt M st left i = if mo.o = st then (szs mo left).map fun z => (i, z) else [] := by unfold lkAt; rw [em]
      have hfl : (List.range (0 + i + 1)).flatMap (lkAt M st left) = (List.range i).flatMap (lkAt M st left) ++ lkAt M st left i := by
        rw [Nat.zero_add, List.range_succ, List.flatMap_append]; simp
      have hll := lk_len hhi st left i
      have hl1 := lkAt_len hhi st left i
      have g0 : ∀ S : Sto, gIx (.p mo.py) (.p (.int 0)) S = .ok (.p (.int mo.o)) S := fun _ => rfl
      have g3 : ∀ S : Sto, gIx (.p mo.py) (.p (.int 3)) S = .ok (.p (.int mo.lo)) S := fun _ => rfl
      have g4 : ∀ S : Sto, gIx (.p mo.py) (.p (.int 4)) S = .ok (.p (.int mo.hi)) S := fun _ => rfl
      rw [hfl, Nat.zero_add]
      generalize hA : (List.range i).flatMap (lkAt M st left) = A at hll ⊢
      simp only [gNm_ap, WE_ok, List.set_cons_succ, List.set_cons_zero, Int.zero_add]
      by_cases ho : mo.o = st
      · rw [if_pos ho] at hlk
        have eo : ((mo.o : Int) == (st : Int)) = true := by rw [ho]; exact beq_self_eq_true _
        have b1 : big62 (mo.lo : Int) = true := big62_nat (by omega)
        have eL : (if (left : Int) < (mo.hi : Int) then (left : Int) else (mo.hi : Int)) = ((min mo.hi left : Nat) : Int) := by split <;> omega
        have b2 : big62 (((min mo.hi left : Nat) : Int) + 1) = true := big62_of (by omega) (by omega)
        simp -implicitDefEqProofs only [DL.wpW, reduceIte, Nat.reduceAdd, Nat.reduceLeDiff, DL.sFor_ap, List.getElem?_map, em, g0, eo, g3, g4, eL, b1, b2, tg0]
        rw [show (((min mo.hi left : Nat) : Int) + 1 - (mo.lo : Int)).toNat = min mo.hi left + 1 - mo.lo by omega]
        rw [show wipeE [some (D.p (.tuple (M.map Mv.py))), some (.int (st : Nat)), some (.int (left : Nat)), some (.ob S.length), some (.int (i : Nat)), some (.p mo.py), v6] [6] = [some (D.p (.tuple (M.map Mv.py))), some (.int (st : Nat)), some (.int (left : Nat)), some (.ob S.length), some (.int (i : Nat)), some (.p mo.py), none] from rfl]
        refine WE_lc (fun j acc S' => S' = S ++ [dL (A.map pD)] ∧ acc = (((List.range j).map (mo.lo + ·)).map fun z => (i, z)).map pD) _ 0 _ _ ⟨rfl, by simp⟩ ?_ ?_
        · rintro j d acc S' hd' ⟨rfl, rfl⟩
          obtain ⟨hj, rfl⟩ := rngL_get hd'
          have hj : j < min mo.hi left + 1 - mo.lo := hj
          simp -implicitDefEqProofs only [DL.wpW, reduceIte, Nat.reduceAdd, Nat.reduceLeDiff, DL.sFor_ap]
          refine ⟨_, _, rfl, ?_, by trivial, by trivial, ?_⟩
          · simp only [List.length_map, List.length_range]
            omega
          · rw [Nat.zero_add, List.range_succ]
            simp [pD]
        · rintro acc S' ⟨rfl, rfl⟩
          rw [rngL_length, Nat.zero_add]
          have hsz : ((List.range (min mo.hi left + 1 - mo.lo)).map (mo.lo + ·)).map (fun z => (i, z)) = lkAt M st left i := by rw [hlk]; rfl
          rw [hsz]
          have ge := gExt_at (S := S) (T := []) (l := A.map pD) (m := (lkAt M st left i).map pD) (by rw [List.length_map, List.length_map, sizeLine_eq]; have := hM.m2; omega)
          simp -implicitDefEqProofs only [DL.wpW, reduceIte, Nat.reduceAdd, Nat.reduceLeDiff, DL.sFor_ap, ge]
          exact ⟨by trivial, by simp, _, _, _, rfl⟩
      · rw [if_neg ho] at hlk
        have eo : ((mo.o : Int) == (st : Int)) = false := beq_eq_false_iff_ne.mpr (by omega)
        simp -implicitDefEqProofs only [DL.wpW, reduceIte, Nat.reduceAdd, Nat.reduceLeDiff, DL.sFor_ap, List.getElem?_map, em, g0, eo]
        exact ⟨by trivial, by rw [hlk, List.append_nil], _, _, _, rfl⟩
    · rintro ρ S' ⟨rfl, v4, v5, v6, rfl⟩
      rw [rngL_length, Nat.zero_add]
      exact ⟨rfl, v4, v5, v6, rfl⟩
  rintro ρ S' ⟨rfl, v4, v5, v6, rfl⟩
  have rs : restD (.ob S.length) (S ++ [dL ((lk M st left).map pD)]) = some (.list ((lk M st left).map pD), S ++ [.fz ((lk M st left).map pD)]) := rest_top
  simp -implicitDefEqProofs only [DL.wpW, reduceIte, Nat.reduceAdd, Nat.reduceLeDiff, DL.sFor_ap, rs]
  exact ⟨by trivial, _, rfl⟩
end
end My

namespace My
open PySem PySem.Spec PyProof.Rows L2 DL
/-! ### what the law enumerates -/
abbrev Sp := Nat × Nat
/-- spots told so far: all reached, none twice -/
structure SOk (M : List Mv) (far : Nat) (l : List Sp) : Prop where
  z : (0, 0) ∈ l
  nd : l.Nodup
  r : ∀ p ∈ l, Rch M far p.1 p.2
/-- what a spot leads to by a move, sizes below k -/
def ClM (far : Nat) (p : Sp) (m : Mv) (k : Nat) (l : List Sp) : Prop := m.o = p.2 → ∀ sz, m.lo ≤ sz → sz < k → sz ≤ m.hi → p.1 + sz ≤ far → (p.1 + sz, m.t) ∈ l
def ClS' (M : List Mv) (far : Nat) (p : Sp) (l : List Sp) : Prop := ∀ m ∈ M, ClM far p m (m.hi + 1) l
theorem ClM.up {far : Nat} {p : Sp} {m : Mv} {k : Nat} {l l' : List Sp} (h : ClM far p m k l) (hs : ∀ x ∈ l, x ∈ l') : ClM far p m k l' := fun ho sz h1 h2 h3 h4 => hs _ (h ho sz h1 h2 h3 h4)
theorem SOk.len {E : List Bool} {M : List Mv} {far : Nat} {l : List Sp} (hM : MOk E M) (h : SOk M far l) : l.length ≤ (far + 1) * E.length := by
  have q := nodup_le (m := (List.range (far + 1)).flatMap fun o => (List.range E.length).map fun s => (o, s)) h.nd fun p hp => by
    have := (h.r p hp).bd hM
    exact List.mem_flatMap.mpr ⟨p.1, List.mem_range.mpr (by omega), List.mem_map.mpr ⟨p.2, List.mem_range.mpr this.2, rfl⟩⟩
  refine Nat.le_trans q ?_
  have := flat_le2 (B := E.length) (List.range (far + 1)) (f := fun o => (List.range E.length).map fun s => (o, s)) fun o _ => by rw [List.length_map, List.length_range]; exact Nat.le_refl _
  rwa [List.length_range] at this
/-- all that is told leads to what is told: all that is reached is told -/
theorem SOk.all {M : List Mv} {far : Nat} {l : List Sp} (h : SOk M far l) (hc : ∀ p ∈ l, ClS' M far p l) {o st : Nat} (r : Rch M far o st) : (o, st) ∈ l := by
  induction r with
  | z => exact h.z
  | @s o st sz m r hm ho h1 h2 h3 ih => exact hc (o, st) ih m hm ho sz h1 (by omega) h2 h3
/-- the spots in their order -/
structure SpL (M : List Mv) (far : Nat) (L : List Sp) : Prop where
  s : L.Pairwise fun a b => a.1 < b.1 ∨ (a.1 = b.1 ∧ a.2 < b.2)
  m : ∀ p : Sp, p ∈ L ↔ Rch M far p.1 p.2
abbrev iP (p : Sp) : Int × Int := ((p.1 : Int), (p.2 : Int))
theorem iP_inj {a b : Sp} (h : iP a = iP b) : a = b := by
  obtain ⟨h1, h2⟩ := Prod.mk.inj h
  exact Prod.ext (by omega) (by omega)
theorem SpL.uniq {M : List Mv} {far : Nat} {L L' : List Sp} (h : SpL M far L) (h' : SpL M far L') : L = L' := by
  have e : L.map iP = L'.map iP := sorted_oneP (List.pairwise_map.mpr (h.s.imp fun {a b} z => by unfold ltp; simp only; omega)) (List.pairwise_map.mpr (h'.s.imp fun {a b} z => by unfold ltp; simp only; omega)) fun j => by
    rw [List.mem_map, List.mem_map]
    exact exists_congr fun p => and_congr_left fun _ => (h.m p).trans (h'.m p).symm
  have := congrArg (List.map fun q : Int × Int => (q.1.toNat, q.2.toNat)) e
  simpa [List.map_map, Function.comp_def] using this
theorem prPy_iP (p : Sp) : prPy (iP p) = pD p := rfl
theorem prsD_map : ∀ l : List Sp, prsD (l.map pD) = some (l.map iP)
  | [] => rfl
  | p :: l => by
    rw [List.map_cons, List.map_cons]
    show (prsD (l.map pD)).map _ = _
    rw [prsD_map l]
    rfl
theorem nd_iP {l : List Sp} (h : l.Nodup) : (l.map iP).Nodup := List.Pairwise.map iP (fun a b hab e => hab (iP_inj e)) h
theorem srt_spots {M : List Mv} {far : Nat} {l : List Sp} (h : SOk M far l) (hall : ∀ o st, Rch M far o st → (o, st) ∈ l) : ∃ L, SpL M far L ∧ (srtP (l.map iP)).map prPy = L.map pD := by
  have hnd : (l.map iP).Nodup := List.Pairwise.map iP (fun a b hab e => hab (iP_inj e)) h.nd
  have hcast : ∀ q ∈ srtP (l.map iP), ∃ p ∈ l, q = iP p := fun q hq => by
    obtain ⟨p, hp, e⟩ := List.mem_map.mp (mem_srtP.mp hq)
    exact ⟨p, hp, e.symm⟩
  have hs := srtP_sorted hnd
  refine ⟨(srtP (l.map iP)).map fun q => (q.1.toNat, q.2.toNat), ⟨?_, fun p => ?_⟩, ?_⟩
  · rw [List.pairwise_map]
    refine List.Pairwise.imp_of_mem (fun {a b} ha hb z => ?_) hs
    obtain ⟨p, _, rfl⟩ := hcast a ha
    obtain ⟨p', _, rfl⟩ := hcast b hb
    unfold ltp at z
    simp only at z ⊢
    omega
  · rw [List.mem_map]
    constructor
    · rintro ⟨q, hq, rfl⟩
      obtain ⟨p, hp, rfl⟩ := hcast q hq
      exact h.r p hp
    · intro r
      exact ⟨iP p, mem_srtP.mpr (List.mem_map.mpr ⟨p, hall p.1 p.2 r, rfl⟩), by simp⟩
  · rw [List.map_map]
    refine List.map_congr_left fun q hq => ?_
    obtain ⟨p, _, rfl⟩ := hcast q hq
    rfl
section
variable {S : Sto} {Q : D → Sto → Prop} {E : Xc → Sto → Prop}
abbrev RLE (wd : PyData) (n far : Nat) (L : Nat) (v4 v5 v6 v7 v8 v9 : Option D) : DL.Env := [some (.p wd), some (.int (n : Nat)), some (.int (far : Nat)), some (.ob L), v4, v5, v6, v7, v8, v9]
theorem lreached_wp {Ws : List Wy} {n : Nat} {EE : List Bool} {M : List Mv} {far : Nat} (hw : Ws[n]? = some (some (EE, M))) (hM : MOk EE M) (hf : far ≤ 16) (hc : ClS 0 S) (q : ∀ L, SpL M far L → Q (.p (.list (L.map fun p => pD (p.2, p.1)))) S) :
    WE (G_law_reached [.p (.tuple (Ws.map wayP)), .int (n : Nat), .int (far : Nat)] S) Q E := by
  refine WE_def (fun d S' => ∃ L, SpL M far L ∧ d = .p (.list (L.map fun p => pD (p.2, p.1))) ∧ ∃ T, S' = S ++ T) ?_ (fun d S' ⟨L, hL, e1, T, e2⟩ => ⟨_, S, T, e1, e2, rfl, hc, q L hL⟩)
  generalize hwd : PyData.tuple (Ws.map wayP) = wd
  have gw : ∀ S : Sto, gIx (.p wd) (.p (.int (n : Nat))) S = .ok (.p (machP EE M)) S := fun S => by
    rw [← hwd]
    simp -implicitDefEqProofs only [DL.wpW, reduceIte, Nat.reduceAdd, Nat.reduceLeDiff, DL.sFor_ap, List.getElem?_map, hw]
    rfl
  have w0 : ∀ S : Sto, gIx (.p (machP EE M)) (.p (.int 0)) S = .ok (.p (.tuple (EE.map .bool))) S := fun _ => rfl
  have w1 : ∀ S : Sto, gIx (.p (machP EE M)) (.p (.int 1)) S = .ok (.p (.tuple (M.map Mv.py))) S := fun _ => rfl
  rw [show start0 NN_law_reached [.p wd, .int (n : Nat), .int (far : Nat)] = [some (.p wd), some (.int (n : Nat)), some (.int (far : Nat)), none, none, none, none, none, none, none] from rfl]
  unfold B_law_reached
  refine WS_cut (fun ρ S' => S' = S ++ [dL ([((0 : Nat), (0 : Nat))].map pD)] ∧ ρ = RLE wd n far S.length none none none none none none) ?_ ?_
  · simp -implicitDefEqProofs only [DL.wpW, reduceIte, Nat.reduceAdd, Nat.reduceLeDiff, DL.sFor_ap]
    exact ⟨by simp [dL, pD], by simp⟩
  rintro ρ S' ⟨rfl, rfl⟩
  have hE1 := hM.e1
  have hE2 := hM.e2
  have hprod : (far + 1) * EE.length ≤ 17 * 9 := Nat.mul_le_mul (by omega) hE2
  refine WS_cut (fun ρ S' => ∃ (l : List Sp) (v4 v5 v6 v7 v8 v9 : Option D), SOk M far l ∧ (∀ p ∈ l, ClS' M far p l) ∧ S' = S ++ [dL (l.map pD)] ∧ ρ = RLE wd n far S.length v4 v5 v6 v7 v8 v9) ?_ ?_
  · have em : ((far : Int) + 1) * (EE.length : Int) = (((far + 1) * EE.length : Nat) : Int) := by simp
    have bn : big62 ((((far + 1) * EE.length : Nat)) : Int) = true := big62_nat (by omega)
    have na : ((far : Int) + 1).natAbs < 2 ^ 64 ∨ ((EE.length : Int)).natAbs < 2 ^ 64 := .inl (by omega)
    simp -implicitDefEqProofs only [DL.wpW, reduceIte, Nat.reduceAdd, Nat.reduceLeDiff, DL.sFor_ap, gw, w0, List.length_map, na, em, bn, Int.toNat_natCast]
    refine WS_for (fun i ρ S' => ∃ (l : List Sp) (v4 v5 v6 v7 v8 v9 : Option D), SOk M far l ∧ (∀ j, j < i → ∀ p, l[j]? = some p → ClS' M far p l) ∧ S' = S ++ [dL (l.map pD)] ∧ ρ = RLE wd n far S.length v4 v5 v6 v7 v8 v9) _ 0 _ _
      ⟨[(0, 0)], none, none, none, none, none, none, ⟨by simp, by simp, fun p hp => by rw [List.mem_singleton.mp hp]; exact .z⟩, (fun j hj => absurd hj (by omega)), rfl, rfl⟩ ?_ ?_
    · rintro i d ρ S' hd ⟨l, v4, v5, v6, v7, v8, v9, hs, hcl, rfl, rfl⟩
      obtain ⟨hi, rfl⟩ := rngL_get hd
      rw [Nat.zero_add] at hcl
      have hll := hs.len hM
      by_cases hil : (i : Int) < (l.length : Int)
      · have hil' : i < l.length := by omega
        have ep : l[i]? = some l[i] := List.getElem?_eq_getElem hil'
        have hpr : Rch M far l[i].1 l[i].2 := hs.r _ (List.getElem_mem hil')
        generalize l[i] = p at ep hpr
        have g2 : ∀ S2 : Sto, nxG (gTupD 2 (gsCons (gNm 6) (gsCons (gNm 7) gsNil)) (.p (pD p)) (RLE wd n far S.length (some (.int (i : Nat))) v5 v6 v7 v8 v9) S2) = .nx (RLE wd n far S.length (some (.int (i : Nat))) v5 (some (.int p.1)) (some (.int p.2)) v8 v9) S2 := fun _ => rfl
        simp -implicitDefEqProofs only [DL.wpW, reduceIte, Nat.reduceAdd, Nat.reduceLeDiff, DL.sFor_ap, tg0, List.length_map, Int.zero_add, hil, decide_true, List.getElem?_map, ep]
        rw [g2]
        simp -implicitDefEqProofs only [DL.wpW, reduceIte, Nat.reduceAdd, Nat.reduceLeDiff, DL.sFor_ap, gw, w1]
        refine WS_for (fun j ρ S' => ∃ (l' T : List Sp) (v5 v8 v9 : Option D), l' = l ++ T ∧ SOk M far l' ∧ (∀ jj, jj < j → ∀ m, M[jj]? = some m → ClM far p m (m.hi + 1) l') ∧ S' = S ++ [dL (l'.map pD)] ∧ ρ = RLE wd n far S.length (some (.int (i : Nat))) v5 (some (.int p.1)) (some (.int p.2)) v8 v9) _ 0 _ _
          ⟨l, [], v5, v8, v9, by simp, hs, (fun jj hj => absurd hj (by omega)), rfl, rfl⟩ ?_ ?_
        · rintro j d ρ S' hd' ⟨l', T, v5, v8, v9, hT, hs', hcl', rfl, rfl⟩
          rw [Nat.zero_add] at hcl'
          rw [List.getElem?_map, List.getElem?_map] at hd'
          cases emj : M[j]? with
          | none => rw [emj] at hd'; cases hd'
          | some m =>
            rw [emj] at hd'
            cases hd'
            have hmM : m ∈ M := List.mem_of_getElem? emj
            obtain ⟨_, _, hlo, hlh, hhi⟩ := hM.mv m hmM
            have g0 : ∀ S : Sto, gIx (.p m.py) (.p (.int 0)) S = .ok (.p (.int m.o)) S := fun _ => rfl
            have g1 : ∀ S : Sto, gIx (.p m.py) (.p (.int 1)) S = .ok (.p (.int m.t)) S := fun _ => rfl
            have g3 : ∀ S : Sto, gIx (.p m.py) (.p (.int 3)) S = .ok (.p (.int m.lo)) S := fun _ => rfl
            have g4 : ∀ S : Sto, gIx (.p m.py) (.p (.int 4)) S = .ok (.p (.int m.hi)) S := fun _ => rfl
            have b1 : big62 (m.lo : Int) = true := big62_nat (by omega)
            have b2 : big62 ((m.hi : Int) + 1) = true := big62_of (by omega) (by omega)
            simp -implicitDefEqProofs only [DL.wpW, reduceIte, Nat.reduceAdd, Nat.reduceLeDiff, DL.sFor_ap, g3, g4, b1, b2]
            rw [show ((m.hi : Int) + 1 - (m.lo : Int)).toNat = m.hi + 1 - m.lo by omega]
            refine WS_for (fun k ρ S' => ∃ (l'' T : List Sp) (v8 v9 : Option D), l'' = l' ++ T ∧ SOk M far l'' ∧ ClM far p m (m.lo + k) l'' ∧ S' = S ++ [dL (l''.map pD)] ∧ ρ = RLE wd n far S.length (some (.int (i : Nat))) (some (.p m.py)) (some (.int p.1)) (some (.int p.2)) v8 v9) _ 0 _ _
              ⟨l', [], v8, v9, by simp, hs', (fun ho sz h1 h2 => absurd h2 (by omega)), rfl, rfl⟩ ?_ ?_
            · rintro k d ρ S' hd2 ⟨l2, T2, v8, v9, hT2, hs2, hcl2, rfl, rfl⟩
              obtain ⟨hk, rfl⟩ := rngL_get hd2
              have hk : k < m.hi + 1 - m.lo := hk
              rw [Nat.zero_add] at hcl2
              have ek : (m.lo : Int) + (k : Int) = ((m.lo + k : Nat) : Int) := by omega
              have ek2 : (p.1 : Int) + ((m.lo + k : Nat) : Int) = ((p.1 + (m.lo + k) : Nat) : Int) := by omega
              have hl2 := hs2.len hM
              have gR := inL (neg := true) (d := pD (p.1 + (m.lo + k), m.t)) (l := l2.map pD) (S := S ++ [dL (l2.map pD)]) (n := S.length) tg0 rfl (pD_sh _) (pDs_sh _)
              rw [any_pDs] at gR
              have gR2 : gInA true (.p (.tuple [.int ((p.1 + (m.lo + k) : Nat) : Int), .int (m.t : Nat)])) (.ob S.length) (S ++ [dL (l2.map pD)]) = .ok (.bl (true ^^ decide ((p.1 + (m.lo + k), m.t) ∈ l2))) (S ++ [dL (l2.map pD)]) := gR
              have nochg : (m.o = p.2 → p.1 + (m.lo + k) ≤ far → (p.1 + (m.lo + k), m.t) ∈ l2) → ClM far p m (m.lo + (0 + k + 1)) l2 := fun h ho sz h1 h2 h3 h4 => by
                by_cases hz : sz < m.lo + k
                · exact hcl2 ho sz h1 hz h3 h4
                · have : sz = m.lo + k := by omega
                  subst this
                  exact h ho h4
              by_cases ho : m.o = p.2
              · have eo : ((m.o : Int) == (p.2 : Int)) = true := by rw [ho]; exact beq_self_eq_true _
                by_cases hfr : p.1 + (m.lo + k) ≤ far
                · have ef : ((p.1 + (m.lo + k) : Nat) : Int) ≤ (far : Int) := by omega
                  by_cases hin : (p.1 + (m.lo + k), m.t) ∈ l2
                  · simp -implicitDefEqProofs only [DL.wpW, reduceIte, Nat.reduceAdd, Nat.reduceLeDiff, DL.sFor_ap, ek, ek2, g0, g1, eo, ef, decide_true, gR2, hin]
                    exact ⟨by trivial, l2, T2, _, _, hT2, hs2, nochg fun _ _ => hin, by trivial, rfl⟩
                  · have hL : l2.length < 16777216 := by omega
                    simp -implicitDefEqProofs only [DL.wpW, reduceIte, Nat.reduceAdd, Nat.reduceLeDiff, DL.sFor_ap, ek, ek2, g0, g1, eo, ef, decide_true, gR2, hin, decide_false, tg0, ts0, List.length_map, hL, dL_snoc]
                    have hsp : Rch M far (p.1 + (m.lo + k)) m.t := .s hpr hmM ho (by omega) (by omega) hfr
                    refine ⟨by trivial, l2 ++ [(p.1 + (m.lo + k), m.t)], T2 ++ [(p.1 + (m.lo + k), m.t)], _, _, by rw [hT2, List.append_assoc], ⟨List.mem_append_left _ hs2.z, ?_, fun x hx => ?_⟩, fun ho sz h1 h2 h3 h4 => ?_, by simp [pD], rfl⟩
                    · rw [List.nodup_append]
                      exact ⟨hs2.nd, by simp, fun a ha b hb e => hin (by rw [← List.mem_singleton.mp hb, ← e]; exact ha)⟩
                    · rcases List.mem_append.mp hx with z | z
                      · exact hs2.r x z
                      · rw [List.mem_singleton.mp z]; exact hsp
                    · by_cases hz : sz < m.lo + k
                      · exact List.mem_append_left _ (hcl2 ho sz h1 hz h3 h4)
                      · have : sz = m.lo + k := by omega
                        subst this
                        exact List.mem_append_right _ (List.mem_singleton.mpr rfl)
                · have ef : ¬ ((p.1 + (m.lo + k) : Nat) : Int) ≤ (far : Int) := by omega
                  simp -implicitDefEqProofs only [DL.wpW, reduceIte, Nat.reduceAdd, Nat.reduceLeDiff, DL.sFor_ap, ek, ek2, g0, g1, eo, ef, decide_false]
                  exact ⟨by trivial, l2, T2, _, _, hT2, hs2, nochg fun _ h => absurd h hfr, by trivial, rfl⟩
              · have eo : ((m.o : Int) == (p.2 : Int)) = false := beq_eq_false_iff_ne.mpr (by omega)
                simp -implicitDefEqProofs only [DL.wpW, reduceIte, Nat.reduceAdd, Nat.reduceLeDiff, DL.sFor_ap, ek, ek2, g0, g1, eo]
                exact ⟨by trivial, l2, T2, _, _, hT2, hs2, nochg fun h => absurd h ho, by trivial, rfl⟩
            · rintro ρ S' ⟨l2, T2, v8, v9, hT2, hs2, hcl2, rfl, rfl⟩
              rw [rngL_length, Nat.zero_add] at hcl2
              have hlh2 : m.lo + (m.hi + 1 - m.lo) = m.hi + 1 := by omega
              rw [hlh2] at hcl2
              refine ⟨by trivial, l2, T ++ T2, _, _, _, by rw [hT2, hT, List.append_assoc], hs2, fun jj hjj m2 hm2 => ?_, by trivial, rfl⟩
              by_cases hz : jj < j
              · exact (hcl' jj hz m2 hm2).up fun x hx => by rw [hT2]; exact List.mem_append_left _ hx
              · have : jj = j := by omega
                subst this
                rw [emj] at hm2
                cases hm2
                exact hcl2
        · rintro ρ S' ⟨l', T, v5, v8, v9, hT, hs', hcl', rfl, rfl⟩
          rw [List.length_map, List.length_map, Nat.zero_add] at hcl'
          refine ⟨by trivial, l', _, _, _, _, _, _, hs', fun j hj p' hp' => ?_, by trivial, rfl⟩
          by_cases hz : j < i
          · have hlt : j < l.length := by omega
            have e2 : l'[j]? = l[j]? := by rw [hT, List.getElem?_append_left hlt]
            rw [e2] at hp'
            exact fun m hm => (hcl j hz p' hp' m hm).up fun x hx => by rw [hT]; exact List.mem_append_left _ hx
          · have : j = i := by omega
            subst this
            have e2 : l'[j]? = l[j]? := by rw [hT, List.getElem?_append_left hil']
            rw [e2, ep] at hp'
            cases hp'
            intro m hm
            obtain ⟨jj, hjj⟩ := List.mem_iff_getElem?.mp hm
            exact hcl' jj (List.getElem?_eq_some_iff.mp hjj).1 m hjj
      · simp -implicitDefEqProofs only [DL.wpW, reduceIte, Nat.reduceAdd, Nat.reduceLeDiff, DL.sFor_ap, tg0, List.length_map, Int.zero_add, hil, decide_false]
        refine ⟨by trivial, l, _, _, _, _, _, _, hs, fun j hj p hp => ?_, by trivial, rfl⟩
        have := (List.getElem?_eq_some_iff.mp hp).1
        exact hcl j (by omega) p hp
    · rintro ρ S' ⟨l, v4, v5, v6, v7, v8, v9, hs, hcl, rfl, rfl⟩
      rw [rngL_length, Nat.zero_add] at hcl
      have hll := hs.len hM
      refine ⟨l, v4, v5, v6, v7, v8, v9, hs, fun p hp => ?_, rfl, rfl⟩
      obtain ⟨j, hj⟩ := List.mem_iff_getElem?.mp hp
      have := (List.getElem?_eq_some_iff.mp hj).1
      exact hcl j (by omega) p hj
  rintro ρ S' ⟨l, v4, v5, v6, v7, v8, v9, hs, hcl, rfl, rfl⟩
  have hll := hs.len hM
  obtain ⟨L, hL, eL⟩ := srt_spots hs fun o st r => hs.all hcl r
  have gs : gSrtP [.ob S.length] (S ++ [dL (l.map pD)]) = .ok (.p (.list (L.map pD))) (S ++ [dL (l.map pD)]) := by
    have vl : vList (S ++ [dL (l.map pD)]) (.ob S.length) = some (l.map pD) := by
      show (match (S ++ [dL (l.map pD)])[S.length]? with | some (.lst l) => pAll l | some (.fz l) => some l | _ => none) = _
      rw [tg0]
      exact pAll_map _
    unfold gSrtP
    simp only [vl, prsD_map]
    rw [if_pos (nd_iP hs.nd), eL]
  simp -implicitDefEqProofs only [DL.wpW, reduceIte, Nat.reduceAdd, Nat.reduceLeDiff, DL.sFor_ap, gs]
  rw [show wipeE (RLE wd n far S.length v4 v5 v6 v7 v8 v9) [6, 7] = RLE wd n far S.length v4 v5 none none v8 v9 from rfl]
  refine WE_lc (fun i acc S' => S' = S ++ [dL (l.map pD)] ∧ acc = (L.take i).map fun p => pD (p.2, p.1)) _ 0 _ _ ⟨rfl, by simp⟩ ?_ ?_
  · rintro i d acc S' hd ⟨rfl, rfl⟩
    rw [List.map_map, List.getElem?_map] at hd
    cases ep : L[i]? with
    | none => rw [ep] at hd; cases hd
    | some p =>
      rw [ep] at hd
      cases hd
      have hLl : L.length = l.length := by
        have h1 := congrArg List.length eL
        rw [List.length_map, List.length_map] at h1
        have h2 : (srtP (l.map iP)).length ≤ l.length := by
          have := nodup_le (m := l.map iP) ((srtP_sorted (nd_iP hs.nd)).imp fun {a b} z e => by rw [e] at z; unfold ltp at z; omega) fun x hx => mem_srtP.mp hx
          rwa [List.length_map] at this
        have h3 := nodup_le (l := l.map iP) (m := srtP (l.map iP)) (nd_iP hs.nd) fun x hx => mem_srtP.mpr hx
        rw [List.length_map] at h3
        omega
      have gt : ∀ ρ S, (gTupD 2 (gNms [6, 7])) (.p (pD p)) ρ S = .ok ((ρ.set 6 (some (.int p.1))).set 7 (some (.int p.2))) S := fun _ _ => rfl
      simp -implicitDefEqProofs only [DL.wpW, reduceIte, Nat.reduceAdd, Nat.reduceLeDiff, DL.sFor_ap, Function.comp_apply, gt]
      refine ⟨_, _, rfl, ?_, by trivial, by trivial, ?_⟩
      · rw [List.length_map, List.length_take]
        omega
      · rw [Nat.zero_add, List.take_succ, ep]
        simp [pD]
  · rintro acc S' ⟨rfl, rfl⟩
    rw [List.length_map, List.length_map, Nat.zero_add, List.take_length]
    simp -implicitDefEqProofs only [DL.wpW, reduceIte, Nat.reduceAdd, Nat.reduceLeDiff, DL.sFor_ap]
    exact ⟨L, hL, by trivial, _, rfl⟩
end
end My

namespace My
open PySem PySem.Spec PyProof.Rows L2 DL
/-! ### what the program enumerates -/
theorem WE_lcD {g : GD} {c : BD} {f : ED} {chk : Sto → Prop} {ρ0 : DL.Env} {Q : D → Sto → Prop} {E : Xc → Sto → Prop} (I : Nat → List D → Sto → Prop) : ∀ (ds : List D) (k : Nat) (acc : List D) (S : Sto), I k acc S →
    (∀ i d acc S, ds[i]? = some d → I (k + i) acc S → WE (g d ρ0 S) (fun ρ1 S1 => WE (c ρ1 S1) (fun b S2 => if b = true then WE (f ρ1 S2) (fun y S3 => acc.length < sizeLine ∧ chk S3 ∧ I (k + i + 1) (acc ++ [y]) S3) (fun _ _ => False) else chk S2 ∧ I (k + i + 1) acc S2) (fun _ _ => False)) (fun _ _ => False)) →
    (∀ acc S, I (k + ds.length) acc S → Q (.ob S.length) (S ++ [.lst acc])) → WE (okLD (lcD g c f chk ρ0 ds acc S)) Q E
  | [], k, acc, S, h0, _, hn => hn acc S h0
  | d :: ds, k, acc, S, h0, hs, hn => by
    have q := hs 0 d acc S rfl h0
    have ih := fun acc2 S2 h => WE_lcD (g := g) (c := c) (f := f) (chk := chk) (ρ0 := ρ0) (Q := Q) (E := E) I ds (k + 1) acc2 S2 h (fun i d ρ S e h => by
        have := hs (i + 1) d ρ S e (by rw [show k + (i + 1) = k + 1 + i by omega]; exact h)
        rw [show k + (i + 1) = k + 1 + i by omega] at this
        exact this) (fun ρ S h => hn ρ S (by rw [List.length_cons, show k + (ds.length + 1) = k + 1 + ds.length by omega]; exact h))
    unfold lcD
    cases e : g d ρ0 S with
    | st => rw [e] at q; exact q.elim
    | ex x S1 => rw [e] at q; exact q.elim
    | ok ρ1 S1 =>
      rw [e] at q
      have q : WE (c ρ1 S1) _ _ := q
      dsimp only
      cases e2 : c ρ1 S1 with
      | st => rw [e2] at q; exact q.elim
      | ex x S1 => rw [e2] at q; exact q.elim
      | ok b S2 =>
        rw [e2] at q
        cases b with
        | false =>
          have q : chk S2 ∧ _ := q
          dsimp only
          rw [if_pos q.1]
          exact ih _ _ q.2
        | true =>
          have q : WE (f ρ1 S2) _ _ := q
          dsimp only
          cases e3 : f ρ1 S2 with
          | st => rw [e3] at q; exact q.elim
          | ex x S1 => rw [e3] at q; exact q.elim
          | ok y S3 =>
            rw [e3] at q
            obtain ⟨h1, h2, h3⟩ := q
            dsimp only
            rw [if_pos ⟨h1, h2⟩]
            exact ih _ _ h3
theorem eLcD_ap {fi : DL.Env → Sto → Rs IDt} {g : GD} {c : BD} {f : ED} {vs : List Nat} {ρ : DL.Env} {S : Sto} : eLcD fi g c f vs ρ S = (fi ρ S).bind fun d S1 => okLD (lcD g c f d.2 (wipeE ρ vs) d.1 [] S1) := rfl
theorem eDNewK_ap {ρ : DL.Env} {S : Sto} : eDNewK ρ S = .ok (.ob S.length) (S ++ [.dik []]) := rfl
def dkP (j : Nat) : Key × D := (.inl (j : Int), .bl true)
def dkO (Z : List Nat) : O := .dik (Z.map dkP)
def addN (Z : List Nat) (t : Nat) : List Nat := if t ∈ Z then Z else Z ++ [t]
theorem setK_dk (Z : List Nat) (t : Nat) : setK (Z.map dkP) (.inl (t : Int)) (.bl true) = (addN Z t).map dkP := by
  have ha : ((Z.map dkP).any fun kv => decide (kv.1 = (.inl (t : Int) : Key))) = decide (t ∈ Z) := by
    rw [List.any_map, Bool.eq_iff_iff]
    simp only [List.any_eq_true, Function.comp_apply, dkP, decide_eq_true_eq]
    constructor
    · rintro ⟨j, hj, e⟩
      have e := Sum.inl.inj (of_decide_eq_true e)
      have : j = t := by omega
      exact this ▸ hj
    · intro h; exact ⟨t, h, decide_eq_true rfl⟩
  unfold setK addN
  rw [ha]
  by_cases h : t ∈ Z
  · rw [if_pos (decide_eq_true h), if_pos h, List.map_map]
    refine List.map_congr_left fun j _ => ?_
    simp only [Function.comp_apply, dkP]
    exact ite_self _
  · rw [if_neg (by simpa using h), if_neg h]
    simp [dkP]
def entK (M : List Mv) (far : Nat) (p : Sp) : List Key × D := ([.inl (p.2 : Int), .inl (p.1 : Int)], .p (.list ((lk M p.2 (far - p.1)).map pD)))
abbrev obsO (L n : Nat) : O := .lst ((List.range n).map fun k => D.ob (L + k))
abbrev TT (L : Nat) (Zs : List (List Nat)) (F : List (List Key × D)) : Sto := Zs.map dkO ++ [obsO L Zs.length, .dic F]
section
variable {S : Sto} {Zs : List (List Nat)} {F F' : List (List Key × D)} {k : Nat} {Z Z' : List Nat}
theorem TT_k (h : Zs[k]? = some Z) : (S ++ TT S.length Zs F)[S.length + k]? = some (dkO Z) := by
  have hk := (List.getElem?_eq_some_iff.mp h).1
  rw [List.getElem?_append_right (by omega), show S.length + k - S.length = k by omega, List.getElem?_append_left (by simpa using hk), List.getElem?_map, h]
  rfl
theorem TT_l {n : Nat} (h : Zs.length = n) : (S ++ TT S.length Zs F)[S.length + n]? = some (obsO S.length n) := by
  subst h
  rw [List.getElem?_append_right (by omega), show S.length + Zs.length - S.length = Zs.length by omega, List.getElem?_append_right (by simp)]
  simp
theorem TT_f {n : Nat} (h : Zs.length = n) : (S ++ TT S.length Zs F)[S.length + n + 1]? = some (.dic F) := by
  subst h
  rw [List.getElem?_append_right (by omega), show S.length + Zs.length + 1 - S.length = Zs.length + 1 by omega, List.getElem?_append_right (by simp)]
  simp
theorem TT_sk (hk : k < Zs.length) : (S ++ TT S.length Zs F).set (S.length + k) (dkO Z') = S ++ TT S.length (Zs.set k Z') F := by
  rw [List.set_append_right _ _ (by omega), show S.length + k - S.length = k by omega, List.set_append_left _ _ (by simpa using hk)]
  simp [TT, List.map_set]
theorem TT_sf {n : Nat} (h : Zs.length = n) : (S ++ TT S.length Zs F).set (S.length + n + 1) (.dic F') = S ++ TT S.length Zs F' := by
  subst h
  rw [List.set_append_right _ _ (by omega), show S.length + Zs.length + 1 - S.length = Zs.length + 1 by omega, List.set_append_right _ _ (by simp)]
  simp
theorem clO_up {k k' : Nat} (hk : k ≤ k') {o : O} (h : ClO k o) : ClO k' o := by
  cases o with
  | lst l => exact fun d hd => clD_mono hk (h d hd)
  | fz l => trivial
  | dic l => exact fun d hd => clD_mono hk (h d hd)
  | dik l => exact fun d hd => clD_mono hk (h d hd)
  | ins c l => exact fun d hd => clD_mono hk (h d hd)
theorem TT_cl (hc : ClS S.length S) (hF : ∀ kv ∈ F, ClD 0 kv.2) {n : Nat} (hn : (S ++ TT S.length Zs F).length ≤ n) : ClS n (S ++ TT S.length Zs F) := by
  have hl : (S ++ TT S.length Zs F).length = S.length + Zs.length + 2 := by simp; omega
  intro o ho
  rcases List.mem_append.mp ho with z | z
  · exact clO_up (by omega) (hc o z)
  · rcases List.mem_append.mp z with z | z
    · obtain ⟨Z, _, rfl⟩ := List.mem_map.mp z
      intro d hd
      obtain ⟨j, _, rfl⟩ := List.mem_map.mp hd
      trivial
    · rcases List.mem_cons.mp z with rfl | z
      · intro d hd
        obtain ⟨k, hk, rfl⟩ := List.mem_map.mp hd
        have := List.mem_range.mp hk
        show S.length + k < n
        omega
      · rw [List.mem_singleton.mp z]
        exact fun d hd => clD_mono (Nat.zero_le _) (hF d hd)
end
/-! what the dicts hold -/
def Suc (M : List Mv) (p : Sp) (k j : Nat) : Prop := ∃ m ∈ M, m.o = p.2 ∧ ∃ sz, m.lo ≤ sz ∧ sz ≤ m.hi ∧ p.1 + sz = k ∧ m.t = j
def PD (M : List Mv) (D : List Sp) (k j : Nat) : Prop := (k = 0 ∧ j = 0) ∨ ∃ p ∈ D, Suc M p k j
structure ZOk (n : Nat) (P : Nat → Nat → Prop) (Zs : List (List Nat)) : Prop where
  at_ : ∀ k Z, Zs[k]? = some Z → Z.Nodup ∧ (∀ j ∈ Z, j < n) ∧ ∀ j, j ∈ Z ↔ P k j
theorem ZOk.mono {n : Nat} {P P' : Nat → Nat → Prop} {Zs : List (List Nat)} (h : ZOk n P Zs) (e : ∀ k j, k < Zs.length → (P k j ↔ P' k j)) : ZOk n P' Zs :=
  ⟨fun k Z hk => let ⟨a, b, c⟩ := h.at_ k Z hk; ⟨a, b, fun j => (c j).trans (e k j (List.getElem?_eq_some_iff.mp hk).1)⟩⟩
theorem ZOk.put {n k0 t : Nat} {P : Nat → Nat → Prop} {Zs : List (List Nat)} {Z0 : List Nat} (h : ZOk n P Zs) (hz : Zs[k0]? = some Z0) (ht : t < n) : ZOk n (fun k j => P k j ∨ (k = k0 ∧ j = t)) (Zs.set k0 (addN Z0 t)) := by
  have hk0 := (List.getElem?_eq_some_iff.mp hz).1
  refine ⟨fun k Z hk => ?_⟩
  by_cases e : k0 = k
  · subst e
    rw [List.getElem?_set_self hk0] at hk
    cases hk
    obtain ⟨a, b, c⟩ := h.at_ _ _ hz
    unfold addN
    split
    · rename_i hm
      exact ⟨a, b, fun j => ⟨fun z => .inl ((c j).mp z), fun z => z.elim (c j).mpr fun ⟨_, e⟩ => e ▸ hm⟩⟩
    · rename_i hm
      refine ⟨?_, fun j hj => ?_, fun j => ?_⟩
      · rw [List.nodup_append]
        exact ⟨a, by simp, fun x hx y hy e => hm (by rw [← List.mem_singleton.mp hy, ← e]; exact hx)⟩
      · rcases List.mem_append.mp hj with z | z
        · exact b j z
        · rw [List.mem_singleton.mp z]; exact ht
      · rw [List.mem_append, List.mem_singleton, c j]
        simp
  · rw [List.getElem?_set_ne e] at hk
    obtain ⟨a, b, c⟩ := h.at_ _ _ hk
    exact ⟨a, b, fun j => (c j).trans ⟨.inl, fun z => z.elim id fun ⟨e2, _⟩ => absurd e2.symm e⟩⟩
theorem mem_lk {M : List Mv} {st left i sz : Nat} : (i, sz) ∈ lk M st left ↔ ∃ m, M[i]? = some m ∧ m.o = st ∧ m.lo ≤ sz ∧ sz ≤ m.hi ∧ sz ≤ left := by
  unfold lk
  rw [List.mem_flatMap]
  constructor
  · rintro ⟨i', hi', h⟩
    unfold lkAt at h
    cases e : M[i']? with
    | none => rw [e] at h; cases h
    | some m =>
      rw [e] at h
      simp only at h
      split at h
      · rename_i ho
        obtain ⟨z, hz, e2⟩ := List.mem_map.mp h
        cases e2
        exact ⟨m, e, ho, mem_szs.mp hz⟩
      · cases h
  · rintro ⟨m, e, ho, h⟩
    refine ⟨i, List.mem_range.mpr (List.getElem?_eq_some_iff.mp e).1, ?_⟩
    unfold lkAt
    rw [e]
    simp only
    rw [if_pos ho]
    exact List.mem_map.mpr ⟨sz, mem_szs.mpr h, rfl⟩
theorem srt_nat {Z : List Nat} (h : Z.Nodup) : ∃ H : List Nat, H.Pairwise (· < ·) ∧ (∀ j, j ∈ H ↔ j ∈ Z) ∧ (srtI (zL Z)).map PyData.int = iLs H := by
  have hn : (zL Z).Nodup := List.Pairwise.map _ (fun a b hab e => hab (by omega)) h
  have hcast : ∀ q ∈ srtI (zL Z), ∃ p ∈ Z, q = (p : Int) := fun q hq => by
    obtain ⟨p, hp, e⟩ := zL_mem.mp (mem_srtI.mp hq)
    exact ⟨p, hp, e.symm⟩
  refine ⟨(srtI (zL Z)).map Int.toNat, ?_, fun j => ?_, ?_⟩
  · rw [List.pairwise_map]
    refine List.Pairwise.imp_of_mem (fun {a b} ha hb z => ?_) (srtI_sorted hn)
    obtain ⟨p, _, rfl⟩ := hcast a ha
    obtain ⟨p', _, rfl⟩ := hcast b hb
    omega
  · rw [List.mem_map]
    constructor
    · rintro ⟨q, hq, rfl⟩
      obtain ⟨p, hp, rfl⟩ := hcast q hq
      simpa using hp
    · intro hj
      exact ⟨(j : Int), mem_srtI.mpr (zL_mem.mpr ⟨j, hj, rfl⟩), by simp⟩
  · rw [← zL_iLs]
    have e : zL ((srtI (zL Z)).map Int.toNat) = srtI (zL Z) := by
      show ((srtI (zL Z)).map Int.toNat).map (fun n : Nat => (n : Int)) = _
      rw [List.map_map]
      conv => rhs; rw [← List.map_id (srtI (zL Z))]
      refine List.map_congr_left fun q hq => ?_
      obtain ⟨p, _, rfl⟩ := hcast q hq
      simp
    rw [e]
theorem intKs_dk : ∀ Z : List Nat, intKs (Z.map dkP) = some (zL Z)
  | [] => rfl
  | j :: Z => by
    show (intKs (Z.map dkP)).map _ = _
    rw [intKs_dk Z]
    rfl
end My

namespace My
open PySem PySem.Spec PyProof.Rows L2 DL
theorem keyN {a b c d : Nat} (h : ([.inl (a : Int), .inl (b : Int)] : List Key) = [.inl (c : Int), .inl (d : Int)]) : a = c ∧ b = d := by
  obtain ⟨h1, h2⟩ := List.cons.inj h
  obtain ⟨h2, _⟩ := List.cons.inj h2
  have h1 := Sum.inl.inj h1
  have h2 := Sum.inl.inj h2
  omega
theorem setD_new {F : List (List Key × D)} {k : List Key} {v : D} (h : ∀ kv ∈ F, kv.1 ≠ k) : setD F k v = F ++ [(k, v)] := by
  unfold setD
  rw [if_neg]
  simp only [List.any_eq_true, decide_eq_true_eq]
  rintro ⟨kv, h1, h2⟩
  exact h kv h1 h2
theorem valD_new {F : List (List Key × D)} {k : List Key} {v : D} (h : ∀ kv ∈ F, kv.1 ≠ k) : valD (F ++ [(k, v)]) k = some v := by
  unfold valD
  rw [List.find?_append, List.find?_eq_none.mpr (by simpa using fun a b hab => h (a, b) hab)]
  simp
section
variable {S : Sto} {Q : D → Sto → Prop} {E : Xc → Sto → Prop}
abbrev RRE (EE : List Bool) (M : List Mv) (far L : Nat) (v5 v6 v7 v8 v9 v10 : Option D) : DL.Env := [some (.p (machP EE M)), some (.int (far : Nat)), some (.p (.tuple (M.map Mv.py))), some (.ob (L + (far + 1))), some (.ob (L + (far + 1) + 1)), v5, v6, v7, v8, v9, v10]
noncomputable abbrev reB (g : FD) : SD := sSeq (sDPt (eVar 4) (eTup (aCons (eVar 7) (aCons (eVar 5) (aNil)))) (eCall 3 g (aCons (eVar 2) (aCons (eVar 7) (aCons (eBin gSub (eVar 1) (eVar 5)) (aNil)))))) (sFor (iLst (eBin gDIx (eVar 4) (eTup (aCons (eVar 7) (aCons (eVar 5) (aNil)))))) (gTupD 2 (gsCons (gNm 9) (gsCons (gNm 10) (gsNil)))) (sDPtK false (eBin gIx (eVar 3) (eBin gAdd (eVar 5) (eVar 10))) (eBin gIx (eBin gIx (eVar 2) (eVar 9)) (eC (.int 1))) (eC (.bool true))))
theorem sDPt_ap {fo fi fv : ED} {ρ : DL.Env} {S : Sto} : sDPt fo fi fv ρ S = liftS ρ (fv ρ S) fun v S1 => liftS ρ (fo ρ S1) fun o S2 => liftS ρ (fi ρ S2) fun i S3 => nxO ρ (putD o i v S3) := rfl
theorem sDPtK_ap {b : Bool} {fo fi fv : ED} {ρ : DL.Env} {S : Sto} : sDPtK b fo fi fv ρ S = liftS ρ (fv ρ S) fun v S1 => liftS ρ (fo ρ S1) fun o S2 => liftS ρ (fi ρ S2) fun i S3 => nxO ρ (putDK b o i v S3) := rfl
/-- one spot: what leads on from it is written down, and told -/
theorem spot_ok {EE : List Bool} {M : List Mv} {far o st : Nat} {D1 : List Sp} {Zs : List (List Nat)} {v6 v8 v9 v10 : Option D} (hM : MOk EE M) (hf : far ≤ 16) (ho : o ≤ far) (hst : st < EE.length) (hc : ClS S.length S) (hz : Zs.length = far + 1) (hZ : ZOk EE.length (PD M D1) Zs) (hD : ∀ p ∈ D1, p ≠ (o, st)) (hDl : D1.length ≤ 1000) :
    WS (reB G_looks_from (RRE EE M far S.length (some (.int (o : Nat))) v6 (some (.int (st : Nat))) v8 v9 v10) (S ++ TT S.length Zs (D1.map (entK M far))))
      (Qn fun ρ S' => ∃ Zs v9 v10, Zs.length = far + 1 ∧ ZOk EE.length (PD M (D1 ++ [(o, st)])) Zs ∧ S' = S ++ TT S.length Zs ((D1 ++ [(o, st)]).map (entK M far)) ∧ ρ = RRE EE M far S.length (some (.int (o : Nat))) v6 (some (.int (st : Nat))) v8 v9 v10) := by
  have hhi : ∀ x ∈ M, x.hi ≤ 16 := fun x hx => (hM.mv x hx).2.2.2.2
  have hFc : ∀ D2 : List Sp, ∀ kv ∈ D2.map (entK M far), ClD 0 kv.2 := fun D2 kv hkv => by
    obtain ⟨p, _, rfl⟩ := List.mem_map.mp hkv
    trivial
  have hno : ∀ kv ∈ D1.map (entK M far), kv.1 ≠ ([.inl (st : Int), .inl (o : Int)] : List Key) := fun kv hkv e => by
    obtain ⟨p, hp, rfl⟩ := List.mem_map.mp hkv
    obtain ⟨e1, e2⟩ := keyN e
    exact hD p hp (Prod.ext e2 e1)
  have esub : (far : Int) - (o : Int) = ((far - o : Nat) : Int) := by omega
  refine WS_cut (fun ρ S' => S' = S ++ TT S.length Zs ((D1 ++ [(o, st)]).map (entK M far)) ∧ ρ = RRE EE M far S.length (some (.int (o : Nat))) v6 (some (.int (st : Nat))) v8 v9 v10) ?_ ?_
  · rw [sDPt_ap]
    simp -implicitDefEqProofs only [DL.wpW, reduceIte, Nat.reduceAdd, Nat.reduceLeDiff, DL.sFor_ap, esub]
    refine lfrom_wp hM (by omega) (TT_cl hc (hFc D1) (Nat.le_refl _)) ?_
    have pd : putD (.ob (S.length + (far + 1) + 1)) (.p (.tuple [.int (st : Nat), .int (o : Nat)])) (.p (.list ((lk M st (far - o)).map pD))) (S ++ TT S.length Zs (D1.map (entK M far))) = some (S ++ TT S.length Zs ((D1 ++ [(o, st)]).map (entK M far))) := by
      have e1 : restD (.p (.list ((lk M st (far - o)).map pD))) (S ++ TT S.length Zs (D1.map (entK M far))) = some (.list ((lk M st (far - o)).map pD), S ++ TT S.length Zs (D1.map (entK M far))) := rfl
      have e2 : keyD (.p (.tuple [.int (st : Nat), .int (o : Nat)])) = some [.inl (st : Int), .inl (o : Int)] := rfl
      unfold putD
      simp only [e1, TT_f (S := S) (F := D1.map (entK M far)) hz, e2]
      rw [if_pos (by rw [List.length_map, sizeLine_eq]; omega), setD_new hno, TT_sf hz]
      simp [entK]
    rw [pd]
    exact ⟨rfl, rfl⟩
  rintro ρ S' ⟨rfl, rfl⟩
  have gd : gDIx (.ob (S.length + (far + 1) + 1)) (.p (.tuple [.int (st : Nat), .int (o : Nat)])) (S ++ TT S.length Zs ((D1 ++ [(o, st)]).map (entK M far))) = .ok (.p (.list ((lk M st (far - o)).map pD))) (S ++ TT S.length Zs ((D1 ++ [(o, st)]).map (entK M far))) := by
    have e1 : dicO (S ++ TT S.length Zs ((D1 ++ [(o, st)]).map (entK M far))) (.ob (S.length + (far + 1) + 1)) = some ((D1 ++ [(o, st)]).map (entK M far)) := by
      simp only [dicO, TT_f (S := S) (F := (D1 ++ [(o, st)]).map (entK M far)) hz]
    have e2 : keyD (.p (.tuple [.int (st : Nat), .int (o : Nat)])) = some [.inl (st : Int), .inl (o : Int)] := rfl
    have e3 : valD ((D1 ++ [(o, st)]).map (entK M far)) [.inl (st : Int), .inl (o : Int)] = some (.p (.list ((lk M st (far - o)).map pD))) := by
      rw [List.map_append]
      exact valD_new hno
    unfold gDIx
    simp only [e1, e2, e3]
  simp -implicitDefEqProofs only [DL.wpW, reduceIte, Nat.reduceAdd, Nat.reduceLeDiff, DL.sFor_ap]
  rw [gd]
  have li : ∀ S : Sto, lItems S (.p (.list ((lk M st (far - o)).map pD))) = some (((lk M st (far - o)).map pD).map D.p) := fun _ => rfl
  simp -implicitDefEqProofs only [DL.wpW, reduceIte, Nat.reduceAdd, Nat.reduceLeDiff, DL.sFor_ap, li]
  generalize hF : (D1 ++ [(o, st)]).map (entK M far) = F
  refine WS_for (fun t ρ S' => ∃ Zs v9 v10, Zs.length = far + 1 ∧ ZOk EE.length (fun k j => PD M D1 k j ∨ ∃ q ∈ (lk M st (far - o)).take t, ∃ m, M[q.1]? = some m ∧ o + q.2 = k ∧ m.t = j) Zs ∧ S' = S ++ TT S.length Zs F ∧ ρ = RRE EE M far S.length (some (.int (o : Nat))) v6 (some (.int (st : Nat))) v8 v9 v10) _ 0 _ _
    ⟨Zs, v9, v10, hz, hZ.mono (fun k j _ => by simp), rfl, rfl⟩ ?_ ?_
  · rintro t d ρ S' hd ⟨Zs, v9, v10, hz, hZ, rfl, rfl⟩
    rw [Nat.zero_add] at hZ ⊢
    rw [List.map_map, List.getElem?_map] at hd
    cases eq : (lk M st (far - o))[t]? with
    | none => rw [eq] at hd; cases hd
    | some q =>
      rw [eq] at hd
      cases hd
      obtain ⟨m, em, hmo, h1, h2, h3⟩ := mem_lk.mp (show (q.1, q.2) ∈ lk M st (far - o) from List.mem_of_getElem? eq)
      obtain ⟨_, hmt, _, _, _⟩ := hM.mv m (List.mem_of_getElem? em)
      have hk : o + q.2 < Zs.length := by omega
      have ez : Zs[o + q.2]? = some Zs[o + q.2] := List.getElem?_eq_getElem hk
      generalize Zs[o + q.2] = Z0 at ez
      obtain ⟨zn, zb, _⟩ := hZ.at_ _ _ ez
      have hZl : Z0.length ≤ 9 := by
        have := nodup_le (m := List.range EE.length) zn fun x hx => List.mem_range.mpr (zb x hx)
        rw [List.length_range] at this
        have := hM.e2
        omega
      have gt : ∀ ρ S, (gTupD 2 (gsCons (gNm 9) (gsCons (gNm 10) gsNil))) (.p (pD q)) ρ S = .ok ((ρ.set 9 (some (.int q.1))).set 10 (some (.int q.2))) S := fun _ _ => rfl
      have eo : (o : Int) + (q.2 : Int) = ((o + q.2 : Nat) : Int) := by omega
      have g1 : ∀ S : Sto, gIx (.p m.py) (.p (.int 1)) S = .ok (.p (.int m.t)) S := fun _ => rfl
      have gl : gIx (.ob (S.length + (far + 1))) (.p (.int ((o + q.2 : Nat) : Int))) (S ++ TT S.length Zs F) = .ok (.ob (S.length + (o + q.2))) (S ++ TT S.length Zs F) := by
        rw [gIx_ob, TT_l hz]
        have : (List.range (far + 1))[o + q.2]? = some (o + q.2) := List.getElem?_range (by omega)
        show oRs (atI ((List.range (far + 1)).map fun k => D.ob (S.length + k)) ((o + q.2 : Nat) : Int)) _ = _
        rw [atI_nat', List.getElem?_map, this]
        rfl
      have pk : putDK false (.ob (S.length + (o + q.2))) (.p (.int (m.t : Nat))) (.p (.bool true)) (S ++ TT S.length Zs F) = some (S ++ TT S.length (Zs.set (o + q.2) (addN Z0 m.t)) F) := by
        have e1 : restD (.p (.bool true)) (S ++ TT S.length Zs F) = some (.bool true, S ++ TT S.length Zs F) := rfl
        have e2 : keyOne (.p (.int (m.t : Nat))) = some (.inl (m.t : Int)) := rfl
        unfold putDK
        simp only [Bool.false_eq_true, if_false, e1, Option.map_some, TT_k (S := S) (F := F) ez, dkO, e2]
        rw [if_pos (by rw [List.length_map, sizeLine_eq]; omega), setK_dk]
        exact congrArg some (TT_sk hk)
      simp -implicitDefEqProofs only [DL.wpW, reduceIte, Nat.reduceAdd, Nat.reduceLeDiff, DL.sFor_ap, Function.comp_apply, gt, sDPtK_ap, eo, gl, List.getElem?_map, em, g1]
      rw [pk]
      refine ⟨trivial, Zs.set (o + q.2) (addN Z0 m.t), _, _, by rw [List.length_set]; exact hz, (hZ.put ez hmt).mono fun k j _ => ?_, rfl, rfl⟩
      rw [List.take_succ, eq]
      constructor
      · rintro ((z | ⟨q', hq', r⟩) | ⟨rfl, rfl⟩)
        · exact .inl z
        · exact .inr ⟨q', List.mem_append_left _ hq', r⟩
        · exact .inr ⟨q, List.mem_append_right _ (by simp), m, em, rfl, rfl⟩
      · rintro (z | ⟨q', hq', m', e', r1, r2⟩)
        · exact .inl (.inl z)
        · rcases List.mem_append.mp hq' with z | z
          · exact .inl (.inr ⟨q', z, m', e', r1, r2⟩)
          · have : q' = q := by simpa using z
            subst this
            rw [em] at e'
            cases e'
            exact .inr ⟨r1.symm, r2.symm⟩
  · rintro ρ S' ⟨Zs, v9, v10, hz, hZ, rfl, rfl⟩
    rw [List.length_map, List.length_map, Nat.zero_add, List.take_length] at hZ
    refine ⟨Zs, v9, v10, hz, hZ.mono fun k j hk => ?_, rfl, rfl⟩
    unfold PD
    constructor
    · rintro ((z | ⟨p, hp, r⟩) | ⟨q, hq, m, em, r1, r2⟩)
      · exact .inl z
      · exact .inr ⟨p, List.mem_append_left _ hp, r⟩
      · obtain ⟨m', em', h0, h1, h2, h3⟩ := mem_lk.mp (show (q.1, q.2) ∈ lk M st (far - o) from hq)
        rw [em] at em'
        cases em'
        exact .inr ⟨(o, st), List.mem_append_right _ (List.mem_singleton.mpr rfl), m, List.mem_of_getElem? em, h0, q.2, h1, h2, r1, r2⟩
    · rintro (z | ⟨p, hp, r⟩)
      · exact .inl (.inl z)
      · rcases List.mem_append.mp hp with z | z
        · exact .inl (.inr ⟨p, z, r⟩)
        · rw [List.mem_singleton.mp z] at r
          obtain ⟨m, hm, h0, sz, h1, h2, h3, h4⟩ := r
          obtain ⟨i, ei⟩ := List.mem_iff_getElem?.mp hm
          exact .inr ⟨(i, sz), mem_lk.mpr ⟨m, ei, h0, h1, h2, by simp only at h3; omega⟩, m, ei, h3, h4⟩
end
end My

namespace My
open PySem PySem.Spec PyProof.Rows L2 DL
/-- spots ahead of an offset, in their order -/
structure DOk (M : List Mv) (far o : Nat) (D : List Sp) : Prop where
  s : D.Pairwise fun a b => a.1 < b.1 ∨ (a.1 = b.1 ∧ a.2 < b.2)
  m : ∀ p : Sp, p ∈ D ↔ Rch M far p.1 p.2 ∧ p.1 < o
/-- what stands in the dict of an offset once all ahead of it is done: what is reached there -/
theorem pd_rch {EE : List Bool} {M : List Mv} {far o : Nat} {D : List Sp} (hM : MOk EE M) (hD : DOk M far o D) (ho : o ≤ far) (j : Nat) : PD M D o j ↔ Rch M far o j := by
  constructor
  · rintro (⟨rfl, rfl⟩ | ⟨p, hp, m, hm, h0, sz, h1, h2, h3, h4⟩)
    · exact .z
    · subst h4
      rw [← h3]
      exact .s ((hD.m p).mp hp).1 hm h0 h1 h2 (by omega)
  · intro r
    cases r with
    | z => exact .inl ⟨rfl, rfl⟩
    | @s o' st' sz m r hm h0 h1 h2 h3 =>
      have := (hM.mv m hm).2.2.1
      exact .inr ⟨(o', st'), (hD.m _).mpr ⟨r, by simp only; omega⟩, m, hm, h0, sz, h1, h2, rfl, rfl⟩
section
variable {S : Sto} {Q : D → Sto → Prop} {E : Xc → Sto → Prop}
theorem DK_k {Zs : List (List Nat)} {R : Sto} {k : Nat} {Z : List Nat} (h : Zs[k]? = some Z) : (S ++ (Zs.map dkO ++ R))[S.length + k]? = some (dkO Z) := by
  have hk := (List.getElem?_eq_some_iff.mp h).1
  rw [List.getElem?_append_right (by omega), show S.length + k - S.length = k by omega, List.getElem?_append_left (by simpa using hk), List.getElem?_map, h]
  rfl
theorem DK_s {Zs : List (List Nat)} {R : Sto} {k : Nat} {Z' : List Nat} (hk : k < Zs.length) : (S ++ (Zs.map dkO ++ R)).set (S.length + k) (dkO Z') = S ++ ((Zs.set k Z').map dkO ++ R) := by
  rw [List.set_append_right _ _ (by omega), show S.length + k - S.length = k by omega, List.set_append_left _ _ (by simpa using hk)]
  simp [List.map_set]
theorem DK_l {Zs : List (List Nat)} {R : Sto} {o : O} {n : Nat} (h : Zs.length = n) : (S ++ (Zs.map dkO ++ o :: R))[S.length + n]? = some o := by
  subst h
  rw [List.getElem?_append_right (by omega), show S.length + Zs.length - S.length = Zs.length by omega, List.getElem?_append_right (by simp)]
  simp
theorem len_of {EE : List Bool} {M : List Mv} {far : Nat} {D : List Sp} (hM : MOk EE M) (hf : far ≤ 16) (hs : D.Pairwise fun a b => a.1 < b.1 ∨ (a.1 = b.1 ∧ a.2 < b.2)) (hr : ∀ p ∈ D, Rch M far p.1 p.2) : D.length ≤ 153 := by
  have hn : D.Nodup := hs.imp fun {a b} z e => by rw [e] at z; omega
  have q := nodup_le (m := (List.range (far + 1)).flatMap fun o => (List.range EE.length).map fun s => (o, s)) hn fun p hp => by
    have := (hr p hp).bd hM
    exact List.mem_flatMap.mpr ⟨p.1, List.mem_range.mpr (by omega), List.mem_map.mpr ⟨p.2, List.mem_range.mpr this.2, rfl⟩⟩
  have h2 := flat_le2 (B := EE.length) (List.range (far + 1)) (f := fun o => (List.range EE.length).map fun s => (o, s)) fun o _ => by rw [List.length_map, List.length_range]; exact Nat.le_refl _
  rw [List.length_range] at h2
  have h3 : (far + 1) * EE.length ≤ 17 * 9 := Nat.mul_le_mul (by omega) hM.e2
  omega
theorem reached_wp {EE : List Bool} {M : List Mv} {far : Nat} (hM : MOk EE M) (hf : far ≤ 16) (hc : ClS S.length S) (q : ∀ L Zs, SpL M far L → Zs.length = far + 1 → Q (.ob (S.length + (far + 1) + 1)) (S ++ TT S.length Zs (L.map (entK M far)))) :
    WE (G_reached [.p (machP EE M), .int (far : Nat)] S) Q E := by
  refine WE_defA (fun d S' => ∃ L Zs, SpL M far L ∧ Zs.length = far + 1 ∧ d = .ob (S.length + (far + 1) + 1) ∧ S' = S ++ TT S.length Zs (L.map (entK M far))) ?_ (fun d S' ⟨L, Zs, hL, hz, e1, e2⟩ => ?_)
  rotate_left
  · have hln : (S ++ TT S.length Zs (L.map (entK M far))).length = S.length + (far + 1) + 2 := by
      rw [List.length_append, List.length_append, List.length_map, hz]
      simp only [List.length_cons, List.length_nil]
      omega
    rw [e1, e2]
    refine ⟨by rw [hln]; omega, TT_cl hc (fun kv hkv => ?_) (Nat.le_refl _), by show S.length + (far + 1) + 1 < _; rw [hln]; omega, fun z => ?_, q L Zs hL hz⟩
    · obtain ⟨p, _, rfl⟩ := List.mem_map.mp hkv
      trivial
    · have : S.length + (far + 1) + 1 < S.length := z.2
      omega
  have w1 : ∀ S : Sto, gIx (.p (machP EE M)) (.p (.int 1)) S = .ok (.p (.tuple (M.map Mv.py))) S := fun _ => rfl
  have hE2 := hM.e2
  rw [show start0 NN_reached [.p (machP EE M), .int (far : Nat)] = [some (.p (machP EE M)), some (.int (far : Nat)), none, none, none, none, none, none, none, none, none] from rfl]
  unfold B_reached
  refine WS_cut (fun ρ S' => S' = S ∧ ρ = [some (.p (machP EE M)), some (.int (far : Nat)), some (.p (.tuple (M.map Mv.py))), none, none, none, none, none, none, none, none]) ?_ ?_
  · simp -implicitDefEqProofs only [DL.wpW, reduceIte, Nat.reduceAdd, Nat.reduceLeDiff, DL.sFor_ap, w1]
    all_goals exact ⟨by trivial, by trivial⟩
  rintro ρ S' ⟨e1, rfl⟩
  rw [e1]
  clear e1 S'
  have bf : big62 ((far : Int) + 1) = true := big62_of (by omega) (by omega)
  have ef : ((far : Int) + 1).toNat = far + 1 := by omega
  refine WS_cut (fun ρ S' => S' = S ++ ((List.replicate (far + 1) ([] : List Nat)).map dkO ++ [obsO S.length (far + 1)]) ∧ ρ = [some (.p (machP EE M)), some (.int (far : Nat)), some (.p (.tuple (M.map Mv.py))), some (.ob (S.length + (far + 1))), none, none, none, none, none, none, none]) ?_ ?_
  · simp -implicitDefEqProofs only [DL.wpW, reduceIte, Nat.reduceAdd, Nat.reduceLeDiff, DL.sFor_ap, eLcD_ap, bf, ef]
    rw [show wipeE [some (D.p (machP EE M)), some (.int (far : Nat)), some (.p (.tuple (M.map Mv.py))), none, none, none, none, none, none, none, none] [8] = [some (D.p (machP EE M)), some (.int (far : Nat)), some (.p (.tuple (M.map Mv.py))), none, none, none, none, none, none, none, none] from rfl]
    refine WE_lcD (fun i acc S' => S' = S ++ (List.replicate i ([] : List Nat)).map dkO ∧ acc = (List.range i).map fun k => D.ob (S.length + k)) _ 0 _ _ ⟨by simp, rfl⟩ ?_ ?_
    · rintro i d acc S' hd ⟨rfl, rfl⟩
      obtain ⟨hi, rfl⟩ := rngL_get hd
      have hi : i < far + 1 := hi
      rw [Nat.zero_add]
      simp -implicitDefEqProofs only [DL.wpW, reduceIte, Nat.reduceAdd, Nat.reduceLeDiff, DL.sFor_ap, eDNewK_ap]
      refine ⟨?_, by trivial, ?_, ?_⟩
      · rw [List.length_map, List.length_range]
        omega
      · rw [List.replicate_succ']
        simp [dkO]
      · rw [List.range_succ]
        simp
    · rintro acc S' ⟨rfl, rfl⟩
      rw [rngL_length, Nat.zero_add]
      exact ⟨by simp, by simp⟩
  rintro ρ S' ⟨rfl, rfl⟩
  refine WS_cut (fun ρ S' => S' = S ++ (((List.replicate (far + 1) ([] : List Nat)).set 0 [0]).map dkO ++ [obsO S.length (far + 1)]) ∧ ρ = [some (.p (machP EE M)), some (.int (far : Nat)), some (.p (.tuple (M.map Mv.py))), some (.ob (S.length + (far + 1))), none, none, none, none, none, none, none]) ?_ ?_
  · have hl0 : (S ++ ((List.replicate (far + 1) ([] : List Nat)).map dkO ++ [obsO S.length (far + 1)]))[S.length + (far + 1)]? = some (obsO S.length (far + 1)) := DK_l (by simp)
    have h00 : (List.range (far + 1))[0]? = some 0 := List.getElem?_range (by omega)
    have ez : (List.replicate (far + 1) ([] : List Nat))[0]? = some [] := by simp
    have pk : putDK false (.ob (S.length + 0)) (.p (.int 0)) (.p (.bool true)) (S ++ ((List.replicate (far + 1) ([] : List Nat)).map dkO ++ [obsO S.length (far + 1)])) = some (S ++ (((List.replicate (far + 1) ([] : List Nat)).set 0 [0]).map dkO ++ [obsO S.length (far + 1)])) := by
      have e1 : ∀ S : Sto, restD (.p (.bool true)) S = some (.bool true, S) := fun _ => rfl
      have e2 : keyOne (.p (.int 0)) = some (.inl ((0 : Nat) : Int)) := rfl
      unfold putDK
      simp only [Bool.false_eq_true, if_false, e1, Option.map_some, DK_k (S := S) ez, dkO, e2]
      rw [if_pos (by rw [List.length_map, sizeLine_eq]; decide), setK_dk]
      exact congrArg some (DK_s (by simp))
    rw [sDPtK_ap]
    simp -implicitDefEqProofs only [DL.wpW, reduceIte, Nat.reduceAdd, Nat.reduceLeDiff, DL.sFor_ap, hl0, List.getElem?_map, h00]
    rw [pk]
    exact ⟨rfl, rfl⟩
  rintro ρ S' ⟨rfl, rfl⟩
  refine WS_cut (fun ρ S' => S' = S ++ TT S.length ((List.replicate (far + 1) ([] : List Nat)).set 0 [0]) [] ∧ ρ = RRE EE M far S.length none none none none none none) ?_ ?_
  · have en : ∀ (ρ : DL.Env) (S : Sto), eDNew ρ S = .ok (.ob S.length) (S ++ [.dic []]) := fun _ _ => rfl
    simp -implicitDefEqProofs only [DL.wpW, reduceIte, Nat.reduceAdd, Nat.reduceLeDiff, DL.sFor_ap, en]
    exact ⟨by simp [TT, List.map_set], by simp; omega⟩
  rintro ρ S' ⟨rfl, rfl⟩
  refine WS_cut (fun ρ S' => ∃ (D : List Sp) (Zs : List (List Nat)) (v5 v6 v7 v8 v9 v10 : Option DL.D), DOk M far (far + 1) D ∧ Zs.length = far + 1 ∧ S' = S ++ TT S.length Zs (D.map (entK M far)) ∧ ρ = RRE EE M far S.length v5 v6 v7 v8 v9 v10) ?_ ?_
  · simp -implicitDefEqProofs only [DL.wpW, reduceIte, Nat.reduceAdd, Nat.reduceLeDiff, DL.sFor_ap, bf, ef]
    refine WS_for (fun o ρ S' => ∃ (D : List Sp) (Zs : List (List Nat)) (v5 v6 v7 v8 v9 v10 : Option DL.D), DOk M far o D ∧ Zs.length = far + 1 ∧ ZOk EE.length (PD M D) Zs ∧ S' = S ++ TT S.length Zs (D.map (entK M far)) ∧ ρ = RRE EE M far S.length v5 v6 v7 v8 v9 v10) _ 0 _ _
      ⟨[], _, none, none, none, none, none, none, ⟨.nil, fun p => by simp⟩, by simp, ⟨fun k Z hk => ?_⟩, rfl, rfl⟩ ?_ ?_
    · by_cases hk0 : k = 0
      · subst hk0
        have : Z = [0] := by simpa using hk.symm
        subst this
        exact ⟨by simp, fun j hj => by rw [List.mem_singleton.mp hj]; exact hM.e1, fun j => by simp [PD]⟩
      · rw [List.getElem?_set_ne (Ne.symm hk0)] at hk
        have : Z = [] := by
          have := List.mem_of_getElem? hk
          exact List.eq_of_mem_replicate this
        subst this
        exact ⟨by simp, (fun j hj => by cases hj), fun j => by simp [PD, hk0]⟩
    · rintro o d ρ S' hd ⟨D, Zs, v5, v6, v7, v8, v9, v10, hD, hz, hZ, rfl, rfl⟩
      obtain ⟨ho, rfl⟩ := rngL_get hd
      have ho : o < far + 1 := ho
      rw [Nat.zero_add] at hD
      have ez : Zs[o]? = some Zs[o] := List.getElem?_eq_getElem (by omega)
      generalize Zs[o] = Z0 at ez
      obtain ⟨zn, zb, zm⟩ := hZ.at_ _ _ ez
      obtain ⟨H, hs, hm, eH⟩ := srt_nat zn
      have hmR : ∀ j, j ∈ H ↔ Rch M far o j := fun j => (hm j).trans ((zm j).trans (pd_rch hM hD (by omega) j))
      have hZl : Z0.length ≤ 9 := by
        have := nodup_le (m := List.range EE.length) zn fun x hx => List.mem_range.mpr (zb x hx)
        rw [List.length_range] at this
        omega
      have hro : (List.range (far + 1))[o]? = some o := List.getElem?_range ho
      have gs : gSrtDK [.ob (S.length + o)] (S ++ TT S.length Zs (D.map (entK M far))) = .ok (.p (.list (iLs H))) (S ++ TT S.length Zs (D.map (entK M far))) := by
        have e1 : dikO (S ++ TT S.length Zs (D.map (entK M far))) (.ob (S.length + o)) = some (Z0.map dkP) := by
          simp only [dikO, TT_k (S := S) (F := D.map (entK M far)) ez, dkO]
        have hn : (zL Z0).Nodup := List.Pairwise.map _ (fun a b hab e => hab (by omega)) zn
        unfold gSrtDK
        simp only [e1, intKs_dk]
        rw [if_pos ⟨by rw [zL, List.length_map]; omega, hn⟩, eH]
      simp -implicitDefEqProofs only [DL.wpW, reduceIte, Nat.reduceAdd, Nat.reduceLeDiff, DL.sFor_ap, Int.zero_add, TT_l hz, List.getElem?_map, hro, gs]
      refine WS_for (fun i ρ S' => ∃ (Zs : List (List Nat)) (v7 v8 v9 v10 : Option DL.D), Zs.length = far + 1 ∧ ZOk EE.length (PD M (D ++ (H.take i).map fun s => (o, s))) Zs ∧ S' = S ++ TT S.length Zs ((D ++ (H.take i).map fun s => (o, s)).map (entK M far)) ∧ ρ = RRE EE M far S.length (some (.int (o : Nat))) (some (.p (.list (iLs H)))) v7 v8 v9 v10) _ 0 _ _
        ⟨Zs, v7, v8, v9, v10, hz, by simpa using hZ, by simp, rfl⟩ ?_ ?_
      · rintro i d ρ S' hd' ⟨Zs, v7, v8, v9, v10, hz, hZ, rfl, rfl⟩
        rw [Nat.zero_add] at hZ ⊢
        rw [iLs, List.map_map, List.getElem?_map] at hd'
        cases est : H[i]? with
        | none => rw [est] at hd'; cases hd'
        | some st =>
          rw [est] at hd'
          cases hd'
          have hrs := (hmR st).mp (List.mem_of_getElem? est)
          have hsb := hrs.bd hM
          have hlt : ∀ s ∈ H.take i, s < st := fun s hs' => by
            obtain ⟨a, ha⟩ := List.mem_iff_getElem?.mp hs'
            have hai : a < i := by
              have := (List.getElem?_eq_some_iff.mp ha).1
              rw [List.length_take] at this
              omega
            rw [List.getElem?_take_of_lt hai] at ha
            obtain ⟨x1, e1⟩ := List.getElem?_eq_some_iff.mp ha
            obtain ⟨x2, e2⟩ := List.getElem?_eq_some_iff.mp est
            have := List.pairwise_iff_getElem.mp hs a i x1 x2 hai
            rw [e1, e2] at this
            exact this
          have hD1 : ∀ p ∈ D ++ (H.take i).map fun s => (o, s), p ≠ (o, st) := fun p hp e => by
            rcases List.mem_append.mp hp with z | z
            · have := ((hD.m p).mp z).2
              rw [e] at this
              simp at this
            · obtain ⟨s, hs', rfl⟩ := List.mem_map.mp z
              have := hlt s hs'
              cases e
              omega
          have hl1 : (D ++ (H.take i).map fun s => (o, s)).length ≤ 1000 := by
            have h1 := len_of hM hf hD.s fun p hp => ((hD.m p).mp hp).1
            have h2 : H.length ≤ 9 := by
              have := nodup_le (l := H) (m := List.range EE.length) (hs.imp fun {a b} z e => by omega) fun x hx => List.mem_range.mpr ((hmR x).mp hx |>.bd hM).2
              rw [List.length_range] at this
              omega
            rw [List.length_append, List.length_map, List.length_take]
            omega
          have etk : (H.take (i + 1)).map (fun s => (o, s)) = (H.take i).map (fun s => (o, s)) ++ [(o, st)] := by
            rw [List.take_succ, est]; simp
          simp only [gNm_ap, WE_ok, List.set_cons_succ, List.set_cons_zero, Function.comp_apply]
          refine WS_mono (spot_ok (v6 := some (.p (.list (iLs H)))) hM hf (by omega) hsb.2 hc hz hZ hD1 hl1) (fun ρ S' h => ?_) (fun _ _ z => z.elim) (fun _ _ z => z.elim) (fun _ _ z => z.elim) (fun _ _ _ z => z.elim)
          obtain ⟨Zs, v9, v10, hz, hZ, rfl, rfl⟩ := h
          have eD : D ++ (H.take (i + 1)).map (fun s => (o, s)) = D ++ (H.take i).map (fun s => (o, s)) ++ [(o, st)] := by rw [etk, List.append_assoc]
          refine ⟨trivial, Zs, _, _, _, _, hz, ?_, ?_, rfl⟩
          · rw [eD]
            exact hZ
          · rw [eD]
      · rintro ρ S' ⟨Zs, v7, v8, v9, v10, hz, hZ, rfl, rfl⟩
        simp only [iLs, List.length_map, Nat.zero_add, List.take_length] at hZ
        refine ⟨by trivial, D ++ H.map fun s => (o, s), Zs, _, _, _, _, _, _, ⟨?_, fun p => ?_⟩, hz, hZ, by simp only [iLs, List.length_map, Nat.zero_add, List.take_length], rfl⟩
        · refine List.pairwise_append.mpr ⟨hD.s, List.pairwise_map.mpr (hs.imp fun {a b} z => .inr ⟨rfl, z⟩), fun a ha b hb => .inl ?_⟩
          obtain ⟨s, _, rfl⟩ := List.mem_map.mp hb
          exact ((hD.m a).mp ha).2
        · rw [Nat.zero_add, List.mem_append, hD.m, List.mem_map]
          constructor
          · rintro (⟨h1, h2⟩ | ⟨s, hs', rfl⟩)
            · exact ⟨h1, by omega⟩
            · exact ⟨(hmR s).mp hs', by simp⟩
          · rintro ⟨h1, h2⟩
            by_cases hp : p.1 < o
            · exact .inl ⟨h1, hp⟩
            · have e : p.1 = o := by omega
              refine .inr ⟨p.2, (hmR _).mpr (by rw [← e]; exact h1), by rw [← e]⟩
    · rintro ρ S' ⟨D, Zs, v5, v6, v7, v8, v9, v10, hD, hz, hZ, rfl, rfl⟩
      rw [rngL_length, Nat.zero_add] at hD
      exact ⟨D, Zs, v5, v6, v7, v8, v9, v10, hD, hz, rfl, rfl⟩
  rintro ρ S' ⟨D, Zs, v5, v6, v7, v8, v9, v10, hD, hz, rfl, rfl⟩
  exact ⟨D, Zs, ⟨hD.s, fun p => (hD.m p).trans ⟨fun h => h.1, fun h => ⟨h, by have := (h.bd hM).1; omega⟩⟩⟩, hz, by trivial, by trivial⟩
end
end My

namespace My
open PySem PySem.Spec PyProof.Rows L2 DL
abbrev LkF (L : Nat) (pd td : PyData) : List (Str × D) := [("parts", .p pd), ("table", .p td), ("reached", .ob (L + 1)), ("put", .ob (L + 2))]
abbrev LkO (L : Nat) (pd td : PyData) : O := .ins "Looks" (LkF L pd td)
theorem kb1 : (Str.ofString "table" == Str.ofString "parts") = false := by decide +kernel
theorem kb2 : (Str.ofString "reached" == Str.ofString "parts") = false := by decide +kernel
theorem kb3 : (Str.ofString "reached" == Str.ofString "table") = false := by decide +kernel
theorem kb4 : (Str.ofString "key" == Str.ofString "parts") = false := by decide +kernel
theorem kb5 : (Str.ofString "key" == Str.ofString "table") = false := by decide +kernel
theorem kb6 : (Str.ofString "key" == Str.ofString "reached") = false := by decide +kernel
theorem kb7 : (Str.ofString "key" == Str.ofString "put") = false := by decide +kernel
theorem kc4 : (Str.ofString "by_spot" == Str.ofString "parts") = false := by decide +kernel
theorem kc5 : (Str.ofString "by_spot" == Str.ofString "table") = false := by decide +kernel
theorem kc6 : (Str.ofString "by_spot" == Str.ofString "reached") = false := by decide +kernel
theorem kc7 : (Str.ofString "by_spot" == Str.ofString "put") = false := by decide +kernel
theorem kd4 : (Str.ofString "count_of" == Str.ofString "parts") = false := by decide +kernel
theorem kd5 : (Str.ofString "count_of" == Str.ofString "table") = false := by decide +kernel
theorem kd6 : (Str.ofString "count_of" == Str.ofString "reached") = false := by decide +kernel
theorem kd7 : (Str.ofString "count_of" == Str.ofString "put") = false := by decide +kernel
theorem lkP {L : Nat} {pd td : PyData} : (LkF L pd td).lookup (Str.ofString "parts") = some (.p pd) := by simp only [LkF, List.lookup, beq_self_eq_true]
theorem lkT {L : Nat} {pd td : PyData} : (LkF L pd td).lookup (Str.ofString "table") = some (.p td) := by simp only [LkF, List.lookup, kb1, beq_self_eq_true]
theorem lkR {L : Nat} {pd td : PyData} : (LkF L pd td).lookup (Str.ofString "reached") = some (.ob (L + 1)) := by simp only [LkF, List.lookup, kb2, kb3, beq_self_eq_true]
theorem lkN1 {L : Nat} {pd td : PyData} : (LkF L pd td).lookup (Str.ofString "key") = none := by simp only [LkF, List.lookup, kb4, kb5, kb6, kb7]
theorem lkN2 {L : Nat} {pd td : PyData} : (LkF L pd td).lookup (Str.ofString "by_spot") = none := by simp only [LkF, List.lookup, kc4, kc5, kc6, kc7]
theorem lkN3 {L : Nat} {pd td : PyData} : (LkF L pd td).lookup (Str.ofString "count_of") = none := by simp only [LkF, List.lookup, kd4, kd5, kd6, kd7]
abbrev LS (S : Sto) (pd td : PyData) (R : List (List Key × D)) : Sto := S ++ [LkO S.length pd td, .dic R, .dic []]
section
variable {S : Sto} {Q : D → Sto → Prop} {E : Xc → Sto → Prop} {pd td : PyData} {R : List (List Key × D)}
theorem LS_len : (LS S pd td R).length = S.length + 3 := by simp
theorem LS_cl (hc : ClS 0 S) (hR : ∀ kv ∈ R, ClD (S.length + 3) kv.2) : ClS (S.length + 3) (LS S pd td R) := by
  intro o ho
  rcases List.mem_append.mp ho with z | z
  · exact clO_up (Nat.zero_le _) (hc o z)
  · simp only [List.mem_cons, List.mem_nil_iff, or_false] at z
    rcases z with rfl | rfl | rfl
    · intro d hd
      simp only [List.mem_cons, List.mem_nil_iff, or_false] at hd
      rcases hd with rfl | rfl | rfl | rfl
      · trivial
      · trivial
      · show S.length + 1 < _; omega
      · show S.length + 2 < _; omega
    · exact hR
    · intro d hd; cases hd
theorem sFldI_ap {c f : Str} {fo fv : ED} {ρ : DL.Env} {S : Sto} : sFldI c f fo fv ρ S = liftS ρ (fv ρ S) fun v S1 => liftS ρ (fo ρ S1) fun o S2 => nxO ρ (putI c f o v S2) := rfl
theorem eFld_ap {c f : Str} {fe : ED} {ρ : DL.Env} {S : Sto} : eFld c f fe ρ S = (fe ρ S).bind fun d S1 => match insO c S1 d with
  | some fs => (match fs.lookup f with
    | some v => .ok v S1
    | none => .st)
  | none => .st := rfl
/-- reading an attribute -/
theorem fld_ok {c f : Str} {fe : ED} {ρ : DL.Env} {S S1 : Sto} {d v : D} {fs : List (Str × D)} (e : fe ρ S = .ok d S1) (h : insO c S1 d = some fs) (h2 : fs.lookup f = some v) : eFld c f fe ρ S = .ok v S1 := by
  rw [eFld_ap, e, Rs.bind_ok]
  simp only [h, h2]
theorem LS_at {T : Sto} : (LS S pd td R ++ T)[S.length]? = some (LkO S.length pd td) := by
  rw [List.append_assoc, List.getElem?_append_right (Nat.le_refl _), Nat.sub_self]
  rfl
theorem LS_at0 : (LS S pd td R)[S.length]? = some (LkO S.length pd td) := by
  have := LS_at (S := S) (pd := pd) (td := td) (R := R) (T := [])
  rwa [List.append_nil] at this
theorem LS_r {T : Sto} : (LS S pd td R ++ T)[S.length + 1]? = some (.dic R) := by
  rw [List.append_assoc, List.getElem?_append_right (by omega), show S.length + 1 - S.length = 1 by omega]
  rfl
theorem LS_sr {T : Sto} {R' : List (List Key × D)} : (LS S pd td R ++ T).set (S.length + 1) (.dic R') = LS S pd td R' ++ T := by
  rw [List.append_assoc, List.set_append_right _ _ (by omega), show S.length + 1 - S.length = 1 by omega, List.append_assoc]
  rfl
theorem LS_ins {T : Sto} : insO "Looks" (LS S pd td R ++ T) (.ob S.length) = some (LkF S.length pd td) := by
  simp only [insO, LS_at, LkO, if_true]
theorem LS_ins0 : insO "Looks" (LS S pd td R) (.ob S.length) = some (LkF S.length pd td) := by
  simp only [insO, LS_at0, LkO, if_true]
/-! the words of a class, ahead -/
theorem WE_eFld {c f : Str} {fe : ED} {ρ : DL.Env} {S : Sto} (h : WE (fe ρ S) (fun d S1 => ∃ fs v, insO c S1 d = some fs ∧ fs.lookup f = some v ∧ Q v S1) E) : WE (eFld c f fe ρ S) Q E := by
  rw [eFld_ap]
  cases e : fe ρ S with
  | st => rw [e] at h; exact h
  | ex a b => rw [e] at h; exact h
  | ok d S1 =>
    rw [e] at h
    obtain ⟨fs, v, h1, h2, q⟩ := h
    rw [Rs.bind_ok]
    simp only [h1, h2]
    exact q
theorem eMeth_ap {c mn : Str} {n : Nat} {g : FD} {fo : ED} {ga : AD} {ρ : DL.Env} {S : Sto} : eMeth c mn n g fo ga ρ S = (fo ρ S).bind fun d S1 => match insO c S1 d with
  | some fs => if fs.lookup mn = none then (ga ρ S1).bind fun ds S2 => if ds.length + 1 = n then noEx (g (d :: ds) S2) else .st else .st
  | none => .st := rfl
theorem WE_noEx {r : Rs D} {Q : D → Sto → Prop} {E : Xc → Sto → Prop} (h : WE r Q (fun _ _ => False)) : WE (noEx r) Q E := by
  cases r with
  | st => exact h
  | ok d S => exact h
  | ex a b => exact h.elim
theorem WE_eMeth {c mn : Str} {n : Nat} {g : FD} {fo : ED} {ga : AD} {ρ : DL.Env} {S S1 S2 : Sto} {d : D} {ds : List D} {fs : List (Str × D)} (e1 : fo ρ S = .ok d S1) (h1 : insO c S1 d = some fs) (h2 : fs.lookup mn = none) (e2 : ga ρ S1 = .ok ds S2) (hn : ds.length + 1 = n) (h : WE (g (d :: ds) S2) Q (fun _ _ => False)) : WE (eMeth c mn n g fo ga ρ S) Q E := by
  rw [eMeth_ap, e1, Rs.bind_ok]
  simp only [h1]
  rw [if_pos h2, e2, Rs.bind_ok, if_pos hn]
  exact WE_noEx h
theorem eMake_ap {c : Str} {n : Nat} {g : FD} {ga : AD} {ρ : DL.Env} {S : Sto} : eMake c n g ga ρ S = (ga ρ S).bind fun ds S1 => if ds.length + 1 = n then
    (match noEx (g (.ob S1.length :: ds) (S1 ++ [.ins c []])) with
      | .ok (.p .none) S3 => .ok (.ob S1.length) S3
      | _ => .st)
  else .st := rfl
theorem eMake_ok {c : Str} {n : Nat} {g : FD} {ga : AD} {ρ : DL.Env} {S S1 S3 : Sto} {ds : List D} (e1 : ga ρ S = .ok ds S1) (hn : ds.length + 1 = n) (e2 : g (.ob S1.length :: ds) (S1 ++ [.ins c []]) = .ok .non S3) : eMake c n g ga ρ S = .ok (.ob S1.length) S3 := by
  rw [eMake_ap, e1, Rs.bind_ok, if_pos hn, e2]
  rfl
end
end My

namespace My
open PySem PySem.Spec PyProof.Rows L2 DL
theorem ne1 : ¬ Str.ofString "parts" = Str.ofString "table" := by decide +kernel
theorem ne2 : ¬ Str.ofString "parts" = Str.ofString "reached" := by decide +kernel
theorem ne3 : ¬ Str.ofString "table" = Str.ofString "reached" := by decide +kernel
theorem ne4 : ¬ Str.ofString "parts" = Str.ofString "put" := by decide +kernel
theorem ne5 : ¬ Str.ofString "table" = Str.ofString "put" := by decide +kernel
theorem ne6 : ¬ Str.ofString "reached" = Str.ofString "put" := by decide +kernel
theorem pf2 {a b : D} : putFD (Str.ofString "table") b [(Str.ofString "parts", a)] = [(Str.ofString "parts", a), (Str.ofString "table", b)] := by simp only [putFD, ne1, if_false]
theorem pf3 {a b c : D} : putFD (Str.ofString "reached") c [(Str.ofString "parts", a), (Str.ofString "table", b)] = [(Str.ofString "parts", a), (Str.ofString "table", b), (Str.ofString "reached", c)] := by simp only [putFD, ne2, ne3, if_false]
theorem pf4 {a b c d : D} : putFD (Str.ofString "put") d [(Str.ofString "parts", a), (Str.ofString "table", b), (Str.ofString "reached", c)] = [(Str.ofString "parts", a), (Str.ofString "table", b), (Str.ofString "reached", c), (Str.ofString "put", d)] := by simp only [putFD, ne4, ne5, ne6, if_false]
section
variable {S : Sto} {Q : D → Sto → Prop} {E : Xc → Sto → Prop} {pd td : PyData} {R : List (List Key × D)}
theorem putI_at {c f : Str} {v : D} {fs : List (Str × D)} {T : Sto} (h : fs.length < 1000) : putI c f (.ob S.length) v (S ++ .ins c fs :: T) = some (S ++ .ins c (putFD f v fs) :: T) := by
  have e : (S ++ .ins c fs :: T)[S.length]? = some (.ins c fs) := by rw [List.getElem?_append_right (Nat.le_refl _), Nat.sub_self]; rfl
  simp only [putI, e]
  rw [if_pos ⟨trivial, h⟩, List.set_append_right _ _ (Nat.le_refl _), Nat.sub_self]
  rfl
theorem init_ok {Ps : List Pt} (hs : ∀ p ∈ Ps, Pt.small p) (hl : Ps.length < 1000) (hc : ClS 0 S) :
    G_Looks___init__ [.ob S.length, .p (.tuple (Ps.map Pt.py))] (S ++ [.ins "Looks" []]) = .ok .non (LS S (.tuple (Ps.map Pt.py)) (.tuple ((Ps.map wayOf).map wayP)) []) := by
  generalize hpd : PyData.tuple (Ps.map Pt.py) = pd
  generalize htd : PyData.tuple ((Ps.map wayOf).map wayP) = td
  have key : WE (G_Looks___init__ [.ob S.length, .p pd] (S ++ [.ins "Looks" []])) (fun d S' => d = .non ∧ S' = LS S pd td []) (fun _ _ => False) := by
    refine WE_defA (fun d S' => d = .non ∧ S' = LS S pd td []) ?_ (fun d S' ⟨e1, e2⟩ => ?_)
    rotate_left
    · subst e1 e2
      refine ⟨by simp, LS_cl (R := []) hc (fun _ h => nomatch h) |> fun z => by rw [LS_len]; exact z, trivial, fun z => ?_, rfl, rfl⟩
      have h1 : (S ++ [O.ins "Looks" []]).length = S.length + 1 := by simp
      have h2 : (LS S pd td []).take (S ++ [O.ins "Looks" []]).length = S ++ [LkO S.length pd td] := by
        rw [h1, List.take_append, List.take_of_length_le (by omega : S.length ≤ S.length + 1)]
        simp
      rw [h2] at z
      have := z.1 (LkO S.length pd td) (by simp) (Str.ofString "reached", .ob (S.length + 1)) (by simp [LkF])
      have : S.length + 1 < (S ++ [O.ins "Looks" []]).length := this
      omega
    rw [show start0 NN_Looks___init__ [.ob S.length, .p pd] = [some (.ob S.length), some (.p pd)] from rfl]
    unfold B_Looks___init__
    refine WS_cut (fun ρ S' => S' = S ++ [.ins "Looks" [(Str.ofString "parts", .p pd)]] ∧ ρ = [some (.ob S.length), some (.p pd)]) ?_ ?_
    · rw [sFldI_ap]
      simp -implicitDefEqProofs only [DL.wpW, reduceIte, Nat.reduceAdd, Nat.reduceLeDiff, DL.sFor_ap]
      rw [putI_at (by simp)]
      exact ⟨rfl, rfl⟩
    rintro ρ S' ⟨rfl, rfl⟩
    refine WS_cut (fun ρ S' => S' = S ++ [.ins "Looks" [(Str.ofString "parts", .p pd), (Str.ofString "table", .p td)]] ∧ ρ = [some (.ob S.length), some (.p pd)]) ?_ ?_
    · rw [sFldI_ap]
      simp -implicitDefEqProofs only [DL.wpW, reduceIte, Nat.reduceAdd, Nat.reduceLeDiff, DL.sFor_ap]
      have hcl : ClS 0 (S ++ [O.ins "Looks" [(Str.ofString "parts", .p pd)]]) := clS_app hc (clS_one (fun d hd => by rw [List.mem_singleton.mp hd]; trivial))
      rw [← hpd]
      refine machines_wp hs hl (by rw [hpd]; exact hcl) ?_
      rw [hpd, htd]
      try simp -implicitDefEqProofs only [DL.wpW, reduceIte, Nat.reduceAdd, Nat.reduceLeDiff, DL.sFor_ap]
      rw [putI_at (by simp), pf2]
      exact ⟨rfl, rfl⟩
    rintro ρ S' ⟨rfl, rfl⟩
    have en : ∀ (ρ : DL.Env) (S : Sto), eDNew ρ S = .ok (.ob S.length) (S ++ [.dic []]) := fun _ _ => rfl
    refine WS_cut (fun ρ S' => S' = S ++ [.ins "Looks" [(Str.ofString "parts", .p pd), (Str.ofString "table", .p td), (Str.ofString "reached", .ob (S.length + 1))], .dic []] ∧ ρ = [some (.ob S.length), some (.p pd)]) ?_ ?_
    · rw [sFldI_ap]
      simp -implicitDefEqProofs only [DL.wpW, reduceIte, Nat.reduceAdd, Nat.reduceLeDiff, DL.sFor_ap, en]
      rw [show List.length (S ++ [O.ins "Looks" [(Str.ofString "parts", D.p pd), (Str.ofString "table", D.p td)]]) = S.length + 1 by simp, List.append_assoc, List.singleton_append, putI_at (by simp), pf3]
      exact ⟨rfl, rfl⟩
    rintro ρ S' ⟨rfl, rfl⟩
    rw [sFldI_ap]
    simp -implicitDefEqProofs only [DL.wpW, reduceIte, Nat.reduceAdd, Nat.reduceLeDiff, DL.sFor_ap, en]
    rw [show List.length (S ++ [O.ins "Looks" [(Str.ofString "parts", D.p pd), (Str.ofString "table", D.p td), (Str.ofString "reached", D.ob (S.length + 1))], O.dic []]) = S.length + 2 by simp, List.append_assoc]
    show WS (nxO _ (putI _ _ (.ob S.length) _ (S ++ .ins _ _ :: [O.dic [], O.dic []]))) _
    rw [putI_at (by simp), pf4]
    first | exact ⟨trivial, rfl⟩ | exact ⟨rfl, rfl⟩ | exact rfl
  obtain ⟨d, S2, e, rfl, rfl⟩ := WE_get key
  exact e
end
end My

namespace My
open PySem PySem.Spec PyProof.Rows L2 DL
section
variable {S : Sto} {Q : D → Sto → Prop} {E : Xc → Sto → Prop} {pd td : PyData} {R : List (List Key × D)}
theorem extentG_wp {ac : Bool} {nm j : Str} {e : Ex} {r : Rg} (hc : ClS S.length S) (q : Q (.p (.int (r.ext ac))) S) : WE (G_extent [.p (Pt.strip ac nm j e).py, .p r.py] S) Q E := by
  refine WE_defG (fun d S' => d = .p (.int (r.ext ac)) ∧ S' = S) ?_ (fun d S' ⟨e1, e2⟩ => ⟨_, S, [], e1, by rw [e2, List.append_nil], rfl, hc, q⟩)
  rw [show start0 NN_extent [.p (Pt.strip ac nm j e).py, .p r.py] = [some (.p (Pt.strip ac nm j e).py), some (.p r.py)] from rfl]
  unfold B_extent
  have da : (Str.ofString "down" == Str.ofString "across") = false := by decide +kernel
  cases ac with
  | true =>
    simp -implicitDefEqProofs only [DL.wpW, reduceIte, Nat.reduceAdd, Nat.reduceLeDiff, DL.sFor_ap, Pt.py, dirS, beq_self_eq_true, gr3]
    all_goals exact ⟨by trivial, by trivial⟩
  | false =>
    simp -implicitDefEqProofs only [DL.wpW, reduceIte, Nat.reduceAdd, Nat.reduceLeDiff, DL.sFor_ap, Pt.py, dirS, da, gr4]
    all_goals exact ⟨by trivial, by trivial⟩
theorem isstripG_wp {pt : Pt} (hc : ClS S.length S) (q : Q (.bl pt.isStrip) S) : WE (G_is_strip [.p pt.py] S) Q E := by
  refine WE_defG (fun d S' => d = .bl pt.isStrip ∧ S' = S) ?_ (fun d S' ⟨e1, e2⟩ => ⟨_, S, [], e1, by rw [e2, List.append_nil], rfl, hc, q⟩)
  rw [show start0 NN_is_strip [.p pt.py] = [some (.p pt.py)] from rfl]
  unfold B_is_strip
  cases pt with
  | plain nm lab c k =>
    simp -implicitDefEqProofs only [DL.wpW, reduceIte, Nat.reduceAdd, Nat.reduceLeDiff, DL.sFor_ap, Pt.py, inw x4 x7, x1]
    all_goals exact ⟨by trivial, by trivial⟩
  | shape nm lab c w h rows =>
    simp -implicitDefEqProofs only [DL.wpW, reduceIte, Nat.reduceAdd, Nat.reduceLeDiff, DL.sFor_ap, Pt.py, inw x5 x7, x2]
    all_goals exact ⟨by trivial, by trivial⟩
  | strip ac nm j e =>
    simp -implicitDefEqProofs only [DL.wpW, reduceIte, Nat.reduceAdd, Nat.reduceLeDiff, DL.sFor_ap, Pt.py, inw (x6 ac) x7, x3]
    all_goals exact ⟨by trivial, by trivial⟩
abbrev kyP (r : Rg) (ac : Bool) : PyData := .tuple [.int r.p, .int (r.ext ac)]
variable {Ps : List Pt} {r : Rg} {ac : Bool} {nm jn : Str} {ee : Ex}
theorem key_wp (hp : Ps[r.p]? = some (.strip ac nm jn ee)) (hc : ClS 0 S) (q : Q (.p (kyP r ac)) (LS S (.tuple (Ps.map Pt.py)) td [])) :
    WE (G_Looks_key [.ob S.length, .p r.py] (LS S (.tuple (Ps.map Pt.py)) td [])) Q E := by
  have hcl : ClS (LS S (.tuple (Ps.map Pt.py)) td []).length (LS S (.tuple (Ps.map Pt.py)) td []) := by rw [LS_len]; exact LS_cl hc (fun _ h => nomatch h)
  refine WE_defG (fun d S' => d = .p (kyP r ac) ∧ S' = LS S (.tuple (Ps.map Pt.py)) td []) ?_ (fun d S' ⟨e1, e2⟩ => ⟨_, _, [], e1, by rw [e2, List.append_nil], rfl, hcl, q⟩)
  rw [show start0 NN_Looks_key [.ob S.length, .p r.py] = [some (.ob S.length), some (.p r.py)] from rfl]
  unfold B_Looks_key
  have hf : eFld "Looks" "parts" (eVar 0) [some (.ob S.length), some (.p r.py)] (LS S (.tuple (Ps.map Pt.py)) td []) = .ok (.p (.tuple (Ps.map Pt.py))) (LS S (.tuple (Ps.map Pt.py)) td []) := fld_ok rfl LS_ins0 lkP
  have g0 : ∀ S : Sto, gIx (.p r.py) (.p (.int 0)) S = .ok (.p (.int r.p)) S := fun _ => rfl
  generalize hZ : LS S (.tuple (Ps.map Pt.py)) td [] = Z at hf hcl ⊢
  simp -implicitDefEqProofs only [DL.wpW, reduceIte, Nat.reduceAdd, Nat.reduceLeDiff, DL.sFor_ap, g0, hf, List.getElem?_map, hp]
  refine extentG_wp hcl ?_
  simp -implicitDefEqProofs only [DL.wpW, reduceIte, Nat.reduceAdd, Nat.reduceLeDiff, DL.sFor_ap]
  all_goals exact ⟨by trivial, by trivial⟩
theorem sDPtO_ap {fo fi fv : ED} {ρ : DL.Env} {S : Sto} : sDPtO fo fi fv ρ S = liftS ρ (fv ρ S) fun v S1 => liftS ρ (fo ρ S1) fun o S2 => liftS ρ (fi ρ S2) fun i S3 => nxO ρ (putDO o i v S3) := rfl
abbrev BSt (S : Sto) (pd td : PyData) (r : Rg) (ac : Bool) (M : List Mv) (L : List Sp) (Zs : List (List Nat)) : Sto :=
  LS S pd td [([.inl (r.p : Int), .inl (r.ext ac : Int)], .ob (S.length + 3 + (r.ext ac + 1) + 1))] ++ TT (S.length + 3) Zs (L.map (entK M (r.ext ac)))
theorem byspot_wp {Ws : List Wy} {EE : List Bool} {M : List Mv} (hp : Ps[r.p]? = some (.strip ac nm jn ee)) (hw : Ws[r.p]? = some (some (EE, M))) (hM : MOk EE M) (hf : r.ext ac ≤ 16) (hc : ClS 0 S)
    (q : ∀ L Zs, SpL M (r.ext ac) L → Zs.length = r.ext ac + 1 → Q (.ob (S.length + 3 + (r.ext ac + 1) + 1)) (BSt S (.tuple (Ps.map Pt.py)) (.tuple (Ws.map wayP)) r ac M L Zs)) :
    WE (G_Looks_by_spot [.ob S.length, .p r.py] (LS S (.tuple (Ps.map Pt.py)) (.tuple (Ws.map wayP)) [])) Q E := by
  generalize hpd : PyData.tuple (Ps.map Pt.py) = pd at q ⊢
  generalize htd : PyData.tuple (Ws.map wayP) = td at q ⊢
  have hcl : ClS (LS S pd td []).length (LS S pd td []) := by rw [LS_len]; exact LS_cl hc (fun _ h => nomatch h)
  refine WE_defA (fun d S' => ∃ L Zs, SpL M (r.ext ac) L ∧ Zs.length = r.ext ac + 1 ∧ d = .ob (S.length + 3 + (r.ext ac + 1) + 1) ∧ S' = BSt S pd td r ac M L Zs) ?_ (fun d S' ⟨L, Zs, hL, hz, e1, e2⟩ => ?_)
  rotate_left
  · subst e1 e2
    have hln : (BSt S pd td r ac M L Zs).length = S.length + 3 + (r.ext ac + 1) + 2 := by
      rw [List.length_append, LS_len, List.length_append, List.length_map, hz]
      simp only [List.length_cons, List.length_nil]
      omega
    refine ⟨by rw [LS_len, hln]; omega, fun o ho => ?_, by show _ < _; rw [hln]; omega, fun z => ?_, q L Zs hL hz⟩
    · rcases List.mem_append.mp ho with z | z
      · rcases List.mem_append.mp z with z | z
        · exact clO_up (Nat.zero_le _) (hc o z)
        · simp only [List.mem_cons, List.mem_nil_iff, or_false] at z
          rcases z with rfl | rfl | rfl
          · intro d hd
            simp only [List.mem_cons, List.mem_nil_iff, or_false] at hd
            rcases hd with rfl | rfl | rfl | rfl
            · trivial
            · trivial
            · show S.length + 1 < _; rw [hln]; omega
            · show S.length + 2 < _; rw [hln]; omega
          · intro d hd
            rw [List.mem_singleton.mp hd]
            show S.length + 3 + (r.ext ac + 1) + 1 < _
            rw [hln]; omega
          · intro d hd; cases hd
      · have hT := TT_cl (S := LS S pd td []) (Zs := Zs) (F := L.map (entK M (r.ext ac))) hcl (fun kv hkv => by
          obtain ⟨p, _, rfl⟩ := List.mem_map.mp hkv
          trivial) (n := (BSt S pd td r ac M L Zs).length) (by rw [hln, List.length_append, LS_len, List.length_append, List.length_map, hz]; simp only [List.length_cons, List.length_nil]; omega)
        refine hT o (List.mem_append_right _ ?_)
        rw [LS_len]
        exact z
    · have : S.length + 3 + (r.ext ac + 1) + 1 < (LS S pd td []).length := z.2
      rw [LS_len] at this
      omega
  rw [show start0 NN_Looks_by_spot [.ob S.length, .p r.py] = [some (.ob S.length), some (.p r.py), none] from rfl]
  unfold B_Looks_by_spot
  refine WS_cut (fun ρ S' => S' = LS S pd td [] ∧ ρ = [some (.ob S.length), some (.p r.py), some (.p (kyP r ac))]) ?_ ?_
  · simp -implicitDefEqProofs only [DL.wpW, reduceIte, Nat.reduceAdd, Nat.reduceLeDiff, DL.sFor_ap]
    refine WE_eMeth rfl LS_ins0 lkN1 rfl rfl ?_
    rw [← hpd]
    refine key_wp hp hc ?_
    rw [hpd]
    try simp -implicitDefEqProofs only [DL.wpW, reduceIte, Nat.reduceAdd, Nat.reduceLeDiff, DL.sFor_ap]
    all_goals exact ⟨by trivial, by trivial⟩
  rintro ρ S' ⟨rfl, rfl⟩
  have k0 : ∀ S : Sto, gIx (.p (kyP r ac)) (.p (.int 0)) S = .ok (.p (.int r.p)) S := fun _ => rfl
  have k1 : ∀ S : Sto, gIx (.p (kyP r ac)) (.p (.int 1)) S = .ok (.p (.int (r.ext ac))) S := fun _ => rfl
  have kd : keyD (.p (kyP r ac)) = some [.inl (r.p : Int), .inl (r.ext ac : Int)] := rfl
  have hR : eFld "Looks" "reached" (eVar 0) [some (.ob S.length), some (.p r.py), some (.p (kyP r ac))] (LS S pd td []) = .ok (.ob (S.length + 1)) (LS S pd td []) := fld_ok rfl LS_ins0 lkR
  have hT : eFld "Looks" "table" (eVar 0) [some (.ob S.length), some (.p r.py), some (.p (kyP r ac))] (LS S pd td []) = .ok (.p td) (LS S pd td []) := fld_ok rfl LS_ins0 lkT
  have gI : gInA true (.p (kyP r ac)) (.ob (S.length + 1)) (LS S pd td []) = .ok (.bl true) (LS S pd td []) := by
    have e1 : dicO (LS S pd td []) (.ob (S.length + 1)) = some [] := by
      have := LS_r (S := S) (pd := pd) (td := td) (R := []) (T := [])
      rw [List.append_nil] at this
      simp only [dicO, this]
    unfold gInA
    simp only [e1, kd]
    rfl
  have gt : gIx (.p td) (.p (.int (r.p : Nat))) (LS S pd td []) = .ok (.p (machP EE M)) (LS S pd td []) := by
    rw [← htd]
    simp -implicitDefEqProofs only [DL.wpW, reduceIte, Nat.reduceAdd, Nat.reduceLeDiff, DL.sFor_ap, List.getElem?_map, hw]
    rfl
  refine WS_cut (fun ρ S' => ∃ L Zs, SpL M (r.ext ac) L ∧ Zs.length = r.ext ac + 1 ∧ S' = BSt S pd td r ac M L Zs ∧ ρ = [some (.ob S.length), some (.p r.py), some (.p (kyP r ac))]) ?_ ?_
  · simp -implicitDefEqProofs only [DL.wpW, reduceIte, Nat.reduceAdd, Nat.reduceLeDiff, DL.sFor_ap, hR, gI]
    try rw [sDPtO_ap]
    simp -implicitDefEqProofs only [DL.wpW, reduceIte, Nat.reduceAdd, Nat.reduceLeDiff, DL.sFor_ap, hT, k0, k1, gt]
    refine reached_wp (S := LS S pd td []) hM hf hcl fun L Zs hL hz => ?_
    rw [LS_len]
    have hR2 : eFld "Looks" "reached" (eVar 0) [some (.ob S.length), some (.p r.py), some (.p (kyP r ac))] (LS S pd td [] ++ TT (S.length + 3) Zs (L.map (entK M (r.ext ac)))) = .ok (.ob (S.length + 1)) (LS S pd td [] ++ TT (S.length + 3) Zs (L.map (entK M (r.ext ac)))) := fld_ok rfl LS_ins lkR
    have pu : putDO (.ob (S.length + 1)) (.p (kyP r ac)) (.ob (S.length + 3 + (r.ext ac + 1) + 1)) (LS S pd td [] ++ TT (S.length + 3) Zs (L.map (entK M (r.ext ac)))) = some (BSt S pd td r ac M L Zs) := by
      unfold putDO
      simp only [LS_r, kd]
      rw [if_pos (by rw [sizeLine_eq]; decide), LS_sr]
      rfl
    simp -implicitDefEqProofs only [DL.wpW, reduceIte, Nat.reduceAdd, Nat.reduceLeDiff, DL.sFor_ap, hR2]
    rw [pu]
    exact ⟨L, Zs, hL, hz, rfl, rfl⟩
  rintro ρ S' ⟨L, Zs, hL, hz, rfl, rfl⟩
  have hR3 : eFld "Looks" "reached" (eVar 0) [some (.ob S.length), some (.p r.py), some (.p (kyP r ac))] (BSt S pd td r ac M L Zs) = .ok (.ob (S.length + 1)) (BSt S pd td r ac M L Zs) := fld_ok rfl LS_ins lkR
  have gd : gDIx (.ob (S.length + 1)) (.p (kyP r ac)) (BSt S pd td r ac M L Zs) = .ok (.ob (S.length + 3 + (r.ext ac + 1) + 1)) (BSt S pd td r ac M L Zs) := by
    have e1 : dicO (BSt S pd td r ac M L Zs) (.ob (S.length + 1)) = some [([.inl (r.p : Int), .inl (r.ext ac : Int)], .ob (S.length + 3 + (r.ext ac + 1) + 1))] := by simp only [dicO, LS_r]
    have e2 : valD [(([.inl (r.p : Int), .inl (r.ext ac : Int)] : List Key), D.ob (S.length + 3 + (r.ext ac + 1) + 1))] [.inl (r.p : Int), .inl (r.ext ac : Int)] = some (.ob (S.length + 3 + (r.ext ac + 1) + 1)) := by simp [valD]
    unfold gDIx
    simp only [e1, kd, e2]
  generalize hZ : BSt S pd td r ac M L Zs = Z at hR3 gd
  have er : eBin gDIx (eFld "Looks" "reached" (eVar 0)) (eVar 2) [some (.ob S.length), some (.p r.py), some (.p (kyP r ac))] Z = .ok (.ob (S.length + 3 + (r.ext ac + 1) + 1)) Z := by
    show (eFld "Looks" "reached" (eVar 0) _ Z).bind _ = _
    rw [hR3]
    exact gd
  show WS (sRet (eBin gDIx (eFld "Looks" "reached" (eVar 0)) (eVar 2)) _ Z) _
  unfold sRet
  rw [er]
  exact ⟨L, Zs, hL, hz, rfl, hZ.symm⟩
end
end My

namespace My
open PySem PySem.Spec PyProof.Rows L2 DL
theorem WE_eLVal {fe : ED} {ρ : DL.Env} {S : Sto} {Q : D → Sto → Prop} {E : Xc → Sto → Prop} (h : WE (fe ρ S) (fun d S1 => ∃ ds l, dvD S1 d = some ds ∧ pAll ds = some l ∧ Q (.p (.list l)) S1) E) : WE (eLVal fe ρ S) Q E := by
  unfold eLVal
  cases e : fe ρ S with
  | st => rw [e] at h; exact h
  | ex a b => rw [e] at h; exact h
  | ok d S1 =>
    rw [e] at h
    obtain ⟨ds, l, h1, h2, q⟩ := h
    rw [Rs.bind_ok]
    simp only [h1, h2]
    exact q
def wsum (M : List Mv) (far : Nat) (L : List Sp) : Nat := (L.map fun p => (lk M p.2 (far - p.1)).length).sum
section
variable {S : Sto} {Q : D → Sto → Prop} {E : Xc → Sto → Prop} {pd td : PyData} {Ps : List Pt} {r : Rg} {ac : Bool} {nm jn : Str} {ee : Ex} {Ws : List Wy} {EE : List Bool} {M : List Mv} {L : List Sp} {Zs : List (List Nat)}
theorem BSt_f (hz : Zs.length = r.ext ac + 1) : (BSt S pd td r ac M L Zs)[S.length + 3 + (r.ext ac + 1) + 1]? = some (.dic (L.map (entK M (r.ext ac)))) := by
  have := TT_f (S := LS S pd td [([.inl (r.p : Int), .inl (r.ext ac : Int)], .ob (S.length + 3 + (r.ext ac + 1) + 1))]) (F := L.map (entK M (r.ext ac))) hz
  rw [LS_len] at this
  exact this
theorem BSt_len (hz : Zs.length = r.ext ac + 1) : (BSt S pd td r ac M L Zs).length = S.length + 3 + (r.ext ac + 1) + 2 := by
  rw [List.length_append, LS_len, List.length_append, List.length_map, hz]
  simp only [List.length_cons, List.length_nil]
  omega
theorem BSt_cl (hc : ClS 0 S) (hz : Zs.length = r.ext ac + 1) : ClS (BSt S pd td r ac M L Zs).length (BSt S pd td r ac M L Zs) := by
  have hln := BSt_len (S := S) (pd := pd) (td := td) (M := M) (L := L) hz
  have hcl : ClS (LS S pd td []).length (LS S pd td []) := by rw [LS_len]; exact LS_cl hc (fun _ h => nomatch h)
  intro o ho
  rcases List.mem_append.mp ho with z | z
  · rcases List.mem_append.mp z with z | z
    · exact clO_up (Nat.zero_le _) (hc o z)
    · simp only [List.mem_cons, List.mem_nil_iff, or_false] at z
      rcases z with rfl | rfl | rfl
      · intro d hd
        simp only [List.mem_cons, List.mem_nil_iff, or_false] at hd
        rcases hd with rfl | rfl | rfl | rfl
        · trivial
        · trivial
        · show S.length + 1 < _; rw [hln]; omega
        · show S.length + 2 < _; rw [hln]; omega
      · intro d hd
        rw [List.mem_singleton.mp hd]
        show S.length + 3 + (r.ext ac + 1) + 1 < _
        rw [hln]; omega
      · intro d hd; cases hd
  · have hT := TT_cl (S := LS S pd td []) (Zs := Zs) (F := L.map (entK M (r.ext ac))) hcl (fun kv hkv => by
      obtain ⟨p, _, rfl⟩ := List.mem_map.mp hkv
      trivial) (n := (BSt S pd td r ac M L Zs).length) (by rw [hln, List.length_append, LS_len, List.length_append, List.length_map, hz]; simp only [List.length_cons, List.length_nil]; omega)
    refine hT o (List.mem_append_right _ ?_)
    rw [LS_len]
    exact z
theorem SpL.len {far : Nat} (hM : MOk EE M) (hf : far ≤ 16) (h : SpL M far L) : L.length ≤ 153 := len_of hM hf h.s fun p hp => (h.m p).mp hp
theorem sum_cast : ∀ l : List Nat, (l.map fun n : Nat => (n : Int)).sum = ((l.sum : Nat) : Int)
  | [] => rfl
  | a :: l => by
    rw [List.map_cons, List.sum_cons, List.sum_cons, sum_cast l]
    omega
theorem count_wp (hp : Ps[r.p]? = some (.strip ac nm jn ee)) (hw : Ws[r.p]? = some (some (EE, M))) (hM : MOk EE M) (hf : r.ext ac ≤ 16) (hc : ClS 0 S)
    (q : ∀ L Zs, SpL M (r.ext ac) L → Zs.length = r.ext ac + 1 → Q (.p (.int (wsum M (r.ext ac) L : Nat))) (BSt S (.tuple (Ps.map Pt.py)) (.tuple (Ws.map wayP)) r ac M L Zs)) :
    WE (G_Looks_count_of [.ob S.length, .p r.py] (LS S (.tuple (Ps.map Pt.py)) (.tuple (Ws.map wayP)) [])) Q E := by
  have hcl : ClS (LS S (.tuple (Ps.map Pt.py)) (.tuple (Ws.map wayP)) []).length (LS S (.tuple (Ps.map Pt.py)) (.tuple (Ws.map wayP)) []) := by rw [LS_len]; exact LS_cl hc (fun _ h => nomatch h)
  refine WE_defA (fun d S' => ∃ L Zs, SpL M (r.ext ac) L ∧ Zs.length = r.ext ac + 1 ∧ d = .p (.int (wsum M (r.ext ac) L : Nat)) ∧ S' = BSt S (.tuple (Ps.map Pt.py)) (.tuple (Ws.map wayP)) r ac M L Zs) ?_ (fun d S' ⟨L, Zs, hL, hz, e1, e2⟩ => ?_)
  rotate_left
  · subst e1 e2
    refine ⟨by rw [LS_len, BSt_len hz]; omega, BSt_cl hc hz, trivial, fun z => ?_, q L Zs hL hz⟩
    have h1 := z.1
    rw [LS_len] at h1
    have h2 := h1 (.dic [([.inl (r.p : Int), .inl (r.ext ac : Int)], .ob (S.length + 3 + (r.ext ac + 1) + 1))]) (by
      have : (BSt S (.tuple (Ps.map Pt.py)) (.tuple (Ws.map wayP)) r ac M L Zs).take (S.length + 3) = LS S (.tuple (Ps.map Pt.py)) (.tuple (Ws.map wayP)) [([.inl (r.p : Int), .inl (r.ext ac : Int)], .ob (S.length + 3 + (r.ext ac + 1) + 1))] := List.take_left' LS_len
      rw [this]
      simp) _ (List.mem_singleton.mpr rfl)
    have : S.length + 3 + (r.ext ac + 1) + 1 < S.length + 3 := h2
    omega
  rw [show start0 NN_Looks_count_of [.ob S.length, .p r.py] = [some (.ob S.length), some (.p r.py), none] from rfl]
  unfold B_Looks_count_of
  have g0 : ∀ S : Sto, gIx (.p r.py) (.p (.int 0)) S = .ok (.p (.int r.p)) S := fun _ => rfl
  refine WS_cut (fun ρ S' => S' = LS S (.tuple (Ps.map Pt.py)) (.tuple (Ws.map wayP)) [] ∧ ρ = [some (.ob S.length), some (.p r.py), none]) ?_ ?_
  · have hfp : eFld "Looks" "parts" (eVar 0) [some (.ob S.length), some (.p r.py), none] (LS S (.tuple (Ps.map Pt.py)) (.tuple (Ws.map wayP)) []) = .ok (.p (.tuple (Ps.map Pt.py))) (LS S (.tuple (Ps.map Pt.py)) (.tuple (Ws.map wayP)) []) := fld_ok rfl LS_ins0 lkP
    generalize hZ : LS S (.tuple (Ps.map Pt.py)) (.tuple (Ws.map wayP)) [] = Z at hfp hcl ⊢
    simp -implicitDefEqProofs only [DL.wpW, reduceIte, Nat.reduceAdd, Nat.reduceLeDiff, DL.sFor_ap, g0, hfp, List.getElem?_map, hp]
    refine isstripG_wp hcl ?_
    simp -implicitDefEqProofs only [DL.wpW, reduceIte, Nat.reduceAdd, Nat.reduceLeDiff, DL.sFor_ap, Pt.isStrip]
    all_goals exact ⟨by trivial, by trivial⟩
  rintro ρ S' ⟨rfl, rfl⟩
  simp -implicitDefEqProofs only [DL.wpW, reduceIte, Nat.reduceAdd, Nat.reduceLeDiff, DL.sFor_ap]
  refine WE_eLVal (WE_eMeth rfl LS_ins0 lkN2 rfl rfl (byspot_wp hp hw hM hf hc fun L Zs hL hz => ?_))
  have hLl := hL.len hM hf
  refine ⟨(L.map (entK M (r.ext ac))).map (·.2), L.map fun p => .list ((lk M p.2 (r.ext ac - p.1)).map pD), ?_, ?_, ?_⟩
  · simp only [dvD, BSt_f hz]
  · rw [List.map_map]
    exact pAll_map _ |> fun z => by rw [← z, List.map_map]; rfl
  generalize hZ : BSt S (.tuple (Ps.map Pt.py)) (.tuple (Ws.map wayP)) r ac M L Zs = Z
  have li : lItems Z (.p (.list (L.map fun p => .list ((lk M p.2 (r.ext ac - p.1)).map pD)))) = some ((L.map fun p => PyData.list ((lk M p.2 (r.ext ac - p.1)).map pD)).map D.p) := rfl
  simp -implicitDefEqProofs only [DL.wpW, reduceIte, Nat.reduceAdd, Nat.reduceLeDiff, DL.sFor_ap, li]
  rw [show wipeE [some (D.ob S.length), some (.p r.py), none] [2] = [some (D.ob S.length), some (.p r.py), none] from rfl]
  refine WE_lc (fun i acc S' => S' = Z ∧ acc = (((L.take i).map fun p => (lk M p.2 (r.ext ac - p.1)).length).map fun n : Nat => (n : Int)).map PyData.int) _ 0 _ _ ⟨rfl, by simp⟩ ?_ ?_
  · rintro i d acc S' hd ⟨rfl, rfl⟩
    rw [List.map_map, List.getElem?_map] at hd
    cases ep : L[i]? with
    | none => rw [ep] at hd; cases hd
    | some p =>
      rw [ep] at hd
      cases hd
      simp -implicitDefEqProofs only [DL.wpW, reduceIte, Nat.reduceAdd, Nat.reduceLeDiff, DL.sFor_ap, Function.comp_apply, List.length_map]
      refine ⟨_, _, rfl, ?_, by trivial, by trivial, ?_⟩
      · try simp only [List.length_map]
        rw [List.length_take]
        omega
      · rw [Nat.zero_add, List.take_succ, ep]
        simp
  · rintro acc S' ⟨rfl, rfl⟩
    rw [List.length_map, List.length_map, Nat.zero_add, List.take_length]
    rw [gSum_lst, sum_cast]
    simp -implicitDefEqProofs only [DL.wpW, reduceIte, Nat.reduceAdd, Nat.reduceLeDiff, DL.sFor_ap]
    exact ⟨L, Zs, hL, hz, by trivial, hZ.symm⟩
theorem count0_wp {pt : Pt} (hp : Ps[r.p]? = some pt) (hno : pt.isStrip = false) (hc : ClS 0 S) (q : Q (.p (.int (0 : Nat))) (LS S (.tuple (Ps.map Pt.py)) td [])) :
    WE (G_Looks_count_of [.ob S.length, .p r.py] (LS S (.tuple (Ps.map Pt.py)) td [])) Q E := by
  have hcl : ClS (LS S (.tuple (Ps.map Pt.py)) td []).length (LS S (.tuple (Ps.map Pt.py)) td []) := by rw [LS_len]; exact LS_cl hc (fun _ h => nomatch h)
  refine WE_defG (fun d S' => d = .p (.int (0 : Nat)) ∧ S' = LS S (.tuple (Ps.map Pt.py)) td []) ?_ (fun d S' ⟨e1, e2⟩ => ⟨_, _, [], e1, by rw [e2, List.append_nil], rfl, hcl, q⟩)
  rw [show start0 NN_Looks_count_of [.ob S.length, .p r.py] = [some (.ob S.length), some (.p r.py), none] from rfl]
  unfold B_Looks_count_of
  have g0 : ∀ S : Sto, gIx (.p r.py) (.p (.int 0)) S = .ok (.p (.int r.p)) S := fun _ => rfl
  have hfp : eFld "Looks" "parts" (eVar 0) [some (.ob S.length), some (.p r.py), none] (LS S (.tuple (Ps.map Pt.py)) td []) = .ok (.p (.tuple (Ps.map Pt.py))) (LS S (.tuple (Ps.map Pt.py)) td []) := fld_ok rfl LS_ins0 lkP
  refine WS_cut (fun _ _ => False) ?_ (fun _ _ h => h.elim)
  generalize hZ : LS S (.tuple (Ps.map Pt.py)) td [] = Z at hfp hcl ⊢
  simp -implicitDefEqProofs only [DL.wpW, reduceIte, Nat.reduceAdd, Nat.reduceLeDiff, DL.sFor_ap, g0, hfp, List.getElem?_map, hp]
  refine isstripG_wp hcl ?_
  simp -implicitDefEqProofs only [DL.wpW, reduceIte, Nat.reduceAdd, Nat.reduceLeDiff, DL.sFor_ap, hno]
  all_goals exact ⟨by trivial, by trivial⟩
/-- the two questions -/
theorem lcount_wp (hs : ∀ p ∈ Ps, Pt.small p) (hl : Ps.length < 1000) (hp : Ps[r.p]? = some (.strip ac nm jn ee)) (hw : (Ps.map wayOf)[r.p]? = some (some (EE, M))) (hM : MOk EE M) (hf : r.ext ac ≤ 16) (hc : ClS 0 S)
    (q : ∀ L, SpL M (r.ext ac) L → Q (.p (.int (wsum M (r.ext ac) L : Nat))) S) : WE (G_look_count [.p (.tuple (Ps.map Pt.py)), .p r.py] S) Q E := by
  refine WE_def (fun d S' => ∃ L, SpL M (r.ext ac) L ∧ d = .p (.int (wsum M (r.ext ac) L : Nat)) ∧ ∃ T, S' = S ++ T) ?_ (fun d S' ⟨L, hL, e1, T, e2⟩ => ⟨_, S, T, e1, e2, rfl, hc, q L hL⟩)
  rw [show start0 NN_look_count [.p (.tuple (Ps.map Pt.py)), .p r.py] = [some (.p (.tuple (Ps.map Pt.py))), some (.p r.py)] from rfl]
  unfold B_look_count
  simp -implicitDefEqProofs only [DL.wpW, reduceIte, Nat.reduceAdd, Nat.reduceLeDiff, DL.sFor_ap]
  refine WE_eMeth (eMake_ok rfl rfl (init_ok hs hl hc)) LS_ins0 lkN3 rfl rfl (count_wp hp hw hM hf hc fun L Zs hL hz => ?_)
  simp -implicitDefEqProofs only [DL.wpW, reduceIte, Nat.reduceAdd, Nat.reduceLeDiff, DL.sFor_ap]
  exact ⟨L, hL, by trivial, _, by rw [BSt, LS, List.append_assoc]⟩
theorem lcount0_wp {pt : Pt} (hs : ∀ p ∈ Ps, Pt.small p) (hl : Ps.length < 1000) (hp : Ps[r.p]? = some pt) (hno : pt.isStrip = false) (hc : ClS 0 S) (q : Q (.p (.int (0 : Nat))) S) : WE (G_look_count [.p (.tuple (Ps.map Pt.py)), .p r.py] S) Q E := by
  refine WE_def (fun d S' => d = .p (.int (0 : Nat)) ∧ ∃ T, S' = S ++ T) ?_ (fun d S' ⟨e1, T, e2⟩ => ⟨_, S, T, e1, e2, rfl, hc, q⟩)
  rw [show start0 NN_look_count [.p (.tuple (Ps.map Pt.py)), .p r.py] = [some (.p (.tuple (Ps.map Pt.py))), some (.p r.py)] from rfl]
  unfold B_look_count
  simp -implicitDefEqProofs only [DL.wpW, reduceIte, Nat.reduceAdd, Nat.reduceLeDiff, DL.sFor_ap]
  refine WE_eMeth (eMake_ok rfl rfl (init_ok hs hl hc)) LS_ins0 lkN3 rfl rfl (count0_wp hp hno hc ?_)
  simp -implicitDefEqProofs only [DL.wpW, reduceIte, Nat.reduceAdd, Nat.reduceLeDiff, DL.sFor_ap]
  exact ⟨by trivial, _, rfl⟩
theorem spots_wp (hs : ∀ p ∈ Ps, Pt.small p) (hl : Ps.length < 1000) (hp : Ps[r.p]? = some (.strip ac nm jn ee)) (hw : (Ps.map wayOf)[r.p]? = some (some (EE, M))) (hM : MOk EE M) (hf : r.ext ac ≤ 16) (hc : ClS 0 S)
    (q : ∀ L, SpL M (r.ext ac) L → Q (.p (.list (L.map fun p => pD (p.2, p.1)))) S) : WE (G_spots [.p (.tuple (Ps.map Pt.py)), .p r.py] S) Q E := by
  refine WE_def (fun d S' => ∃ L, SpL M (r.ext ac) L ∧ d = .p (.list (L.map fun p => pD (p.2, p.1))) ∧ ∃ T, S' = S ++ T) ?_ (fun d S' ⟨L, hL, e1, T, e2⟩ => ⟨_, S, T, e1, e2, rfl, hc, q L hL⟩)
  rw [show start0 NN_spots [.p (.tuple (Ps.map Pt.py)), .p r.py] = [some (.p (.tuple (Ps.map Pt.py))), some (.p r.py)] from rfl]
  unfold B_spots
  simp -implicitDefEqProofs only [DL.wpW, reduceIte, Nat.reduceAdd, Nat.reduceLeDiff, DL.sFor_ap]
  refine WE_eMeth (eMake_ok rfl rfl (init_ok hs hl hc)) LS_ins0 lkN2 rfl rfl (byspot_wp hp hw hM hf hc fun L Zs hL hz => ?_)
  have gl : gToListT [.ob (S.length + 3 + (r.ext ac + 1) + 1)] (BSt S (.tuple (Ps.map Pt.py)) (.tuple ((Ps.map wayOf).map wayP)) r ac M L Zs) = .ok (.p (.list (L.map fun p => pD (p.2, p.1)))) (BSt S (.tuple (Ps.map Pt.py)) (.tuple ((Ps.map wayOf).map wayP)) r ac M L Zs) := by
    have e1 : dicO (BSt S (.tuple (Ps.map Pt.py)) (.tuple ((Ps.map wayOf).map wayP)) r ac M L Zs) (.ob (S.length + 3 + (r.ext ac + 1) + 1)) = some (L.map (entK M (r.ext ac))) := by simp only [dicO, BSt_f hz]
    unfold gToListT
    simp only [e1]
    rw [List.map_map]
    rfl
  rw [gl]
  simp -implicitDefEqProofs only [DL.wpW, reduceIte, Nat.reduceAdd, Nat.reduceLeDiff, DL.sFor_ap]
  exact ⟨L, hL, by trivial, _, by rw [BSt, LS, List.append_assoc]⟩
end
end My

namespace My
open PySem PySem.Spec PyProof.Rows L2 DL
theorem lkAt_at {M : List Mv} {st left i : Nat} {m : Mv} (e : M[i]? = some m) : (lkAt M st left i).length = if m.o = st then min m.hi left + 1 - m.lo else 0 := by
  unfold lkAt
  rw [e]
  simp only
  split
  · rw [List.length_map, szs, List.length_map, List.length_range]
  · rfl
theorem wsum_snoc {M : List Mv} {far i : Nat} {L : List Sp} {p : Sp} (e : L[i]? = some p) : wsum M far (L.take (i + 1)) = wsum M far (L.take i) + (lk M p.2 (far - p.1)).length := by
  unfold wsum
  rw [List.take_succ, e]
  simp
section
variable {S : Sto} {Q : D → Sto → Prop} {E : Xc → Sto → Prop} {Ps : List Pt} {r : Rg} {ac : Bool} {nm jn : Str} {ee : Ex} {Ws : List Wy} {EE : List Bool} {M : List Mv}
abbrev RLK (pd wd : PyData) (r : Rg) (pt : PyData) (L far : Nat) (v6 v7 v8 v9 : Option D) : DL.Env := [some (.p pd), some (.p wd), some (.p r.py), some (.p pt), some (.ob L), some (.int (far : Nat)), v6, v7, v8, v9]
theorem llooks_wp (hp : Ps[r.p]? = some (.strip ac nm jn ee)) (hw : Ws[r.p]? = some (some (EE, M))) (hM : MOk EE M) (hf : r.ext ac ≤ 16) (hc : ClS 0 S)
    (q : ∀ (L : List Sp) (l : List PyData), SpL M (r.ext ac) L → l.length = wsum M (r.ext ac) L → Q (.p (.list l)) S) : WE (G_law_looks [.p (.tuple (Ps.map Pt.py)), .p (.tuple (Ws.map wayP)), .p r.py] S) Q E := by
  refine WE_def (fun d S' => ∃ (L : List Sp) (l : List PyData), SpL M (r.ext ac) L ∧ l.length = wsum M (r.ext ac) L ∧ d = .p (.list l) ∧ ∃ T, S' = S ++ T) ?_ (fun d S' ⟨L, l, hL, hl, e1, T, e2⟩ => ⟨_, S, T, e1, e2, rfl, hc, q L l hL hl⟩)
  rw [show start0 NN_law_looks [.p (.tuple (Ps.map Pt.py)), .p (.tuple (Ws.map wayP)), .p r.py] = [some (.p (.tuple (Ps.map Pt.py))), some (.p (.tuple (Ws.map wayP))), some (.p r.py), none, none, none, none, none, none, none] from rfl]
  unfold B_law_looks
  have g0 : ∀ S : Sto, gIx (.p r.py) (.p (.int 0)) S = .ok (.p (.int r.p)) S := fun _ => rfl
  refine WS_cut (fun ρ S' => S' = S ∧ ρ = [some (.p (.tuple (Ps.map Pt.py))), some (.p (.tuple (Ws.map wayP))), some (.p r.py), some (.p (Pt.strip ac nm jn ee).py), none, none, none, none, none, none]) ?_ ?_
  · simp -implicitDefEqProofs only [DL.wpW, reduceIte, Nat.reduceAdd, Nat.reduceLeDiff, DL.sFor_ap, g0, List.getElem?_map, hp]
    all_goals exact ⟨by trivial, by trivial⟩
  rintro ρ S' ⟨e1, rfl⟩
  rw [e1]
  clear e1 S'
  refine WS_cut (fun ρ S' => S' = S ++ [dL ([] : List PyData)] ∧ ρ = [some (.p (.tuple (Ps.map Pt.py))), some (.p (.tuple (Ws.map wayP))), some (.p r.py), some (.p (Pt.strip ac nm jn ee).py), some (.ob S.length), none, none, none, none, none]) ?_ ?_
  · simp -implicitDefEqProofs only [DL.wpW, reduceIte, Nat.reduceAdd, Nat.reduceLeDiff, DL.sFor_ap]
    exact ⟨by simp [dL], by simp⟩
  rintro ρ S' ⟨rfl, rfl⟩
  have w1 : ∀ S : Sto, gIx (.p (machP EE M)) (.p (.int 1)) S = .ok (.p (.tuple (M.map Mv.py))) S := fun _ => rfl
  have hE2 := hM.e2
  have hhi : ∀ x ∈ M, x.hi ≤ 16 := fun x hx => (hM.mv x hx).2.2.2.2
  have hcl : ∀ l : List PyData, ClS 0 (S ++ [dL l]) := fun l => clS_app hc (clS_one clO_p)
  refine WS_cut (fun ρ S' => ∃ (L : List Sp) (l : List PyData) (v6 v7 v8 v9 : Option D), SpL M (r.ext ac) L ∧ l.length = wsum M (r.ext ac) L ∧ S' = S ++ [dL l] ∧ ρ = RLK (.tuple (Ps.map Pt.py)) (.tuple (Ws.map wayP)) r (Pt.strip ac nm jn ee).py S.length (r.ext ac) v6 v7 v8 v9) ?_ ?_
  · simp -implicitDefEqProofs only [DL.wpW, reduceIte, Nat.reduceAdd, Nat.reduceLeDiff, DL.sFor_ap]
    refine lawstrip_wp (hcl _) ?_
    simp -implicitDefEqProofs only [DL.wpW, reduceIte, Nat.reduceAdd, Nat.reduceLeDiff, DL.sFor_ap, Pt.isStrip]
    refine ext_wp (hcl _) ?_
    simp -implicitDefEqProofs only [DL.wpW, reduceIte, Nat.reduceAdd, Nat.reduceLeDiff, DL.sFor_ap, g0]
    refine lreached_wp hw hM hf (hcl _) fun L hL => ?_
    have hLl := hL.len hM hf
    have li : ∀ S : Sto, lItems S (.p (.list (L.map fun p => pD (p.2, p.1)))) = some ((L.map fun p => pD (p.2, p.1)).map D.p) := fun _ => rfl
    simp -implicitDefEqProofs only [DL.wpW, reduceIte, Nat.reduceAdd, Nat.reduceLeDiff, DL.sFor_ap, li]
    refine WS_for (fun i ρ S' => ∃ (l : List PyData) (v6 v7 v8 v9 : Option D), l.length = wsum M (r.ext ac) (L.take i) ∧ S' = S ++ [dL l] ∧ ρ = RLK (.tuple (Ps.map Pt.py)) (.tuple (Ws.map wayP)) r (Pt.strip ac nm jn ee).py S.length (r.ext ac) v6 v7 v8 v9) _ 0 _ _ ⟨[], none, none, none, none, by simp [wsum], rfl, rfl⟩ ?_ ?_
    · rintro i d ρ S' hd ⟨l, v6, v7, v8, v9, hl, rfl, rfl⟩
      rw [Nat.zero_add] at hl ⊢
      rw [List.map_map, List.getElem?_map] at hd
      cases ep : L[i]? with
      | none => rw [ep] at hd; cases hd
      | some p =>
        rw [ep] at hd
        cases hd
        have hpb := ((hL.m p).mp (List.mem_of_getElem? ep)).bd hM
        have hbd : ∀ j, wsum M (r.ext ac) (L.take j) ≤ 153 * 1400 := fun j => by
          have : ∀ l : List Sp, (l.map fun p => (lk M p.2 (r.ext ac - p.1)).length).sum ≤ l.length * 1400 := fun l => by
            induction l with
            | nil => simp
            | cons a l ih =>
              have h1 := lk_len hhi a.2 (r.ext ac - a.1) M.length
              have h2 := hM.m2
              rw [List.map_cons, List.sum_cons, List.length_cons, Nat.succ_mul]
              have h3 : (lk M a.2 (r.ext ac - a.1)).length ≤ 1400 := by
                have : (lk M a.2 (r.ext ac - a.1)).length ≤ M.length * 17 := h1
                omega
              omega
          have h := this (L.take j)
          have h2 : (L.take j).length ≤ 153 := by rw [List.length_take]; omega
          have h3 : (L.take j).length * 1400 ≤ 153 * 1400 := Nat.mul_le_mul_right _ h2
          unfold wsum
          omega
        have gw : ∀ S : Sto, gIx (.p (.tuple (Ws.map wayP))) (.p (.int (r.p : Nat))) S = .ok (.p (machP EE M)) S := fun S => by
          simp -implicitDefEqProofs only [DL.wpW, reduceIte, Nat.reduceAdd, Nat.reduceLeDiff, DL.sFor_ap, List.getElem?_map, hw]
          rfl
        have g2 : ∀ S2 : Sto, nxG (gTupD 2 (gsCons (gNm 6) (gsCons (gNm 7) gsNil)) (.p (pD (p.2, p.1))) (RLK (.tuple (Ps.map Pt.py)) (.tuple (Ws.map wayP)) r (Pt.strip ac nm jn ee).py S.length (r.ext ac) v6 v7 v8 v9) S2) = .nx (RLK (.tuple (Ps.map Pt.py)) (.tuple (Ws.map wayP)) r (Pt.strip ac nm jn ee).py S.length (r.ext ac) (some (.int p.2)) (some (.int p.1)) v8 v9) S2 := fun _ => rfl
        have gt : ∀ S2 : Sto, gTupD 2 (gsCons (gNm 6) (gsCons (gNm 7) gsNil)) (.p (pD (p.2, p.1))) (RLK (.tuple (Ps.map Pt.py)) (.tuple (Ws.map wayP)) r (Pt.strip ac nm jn ee).py S.length (r.ext ac) v6 v7 v8 v9) S2 = .ok (RLK (.tuple (Ps.map Pt.py)) (.tuple (Ws.map wayP)) r (Pt.strip ac nm jn ee).py S.length (r.ext ac) (some (.int p.2)) (some (.int p.1)) v8 v9) S2 := fun _ => rfl
        have esub : ((r.ext ac : Nat) : Int) - (p.1 : Int) = ((r.ext ac - p.1 : Nat) : Int) := by omega
        simp only [Function.comp_apply]
        rw [gt]
        simp -implicitDefEqProofs only [DL.wpW, reduceIte, Nat.reduceAdd, Nat.reduceLeDiff, DL.sFor_ap, g0, gw, w1]
        refine WS_for (fun j ρ S' => ∃ (l : List PyData) (v8 v9 : Option D), l.length = wsum M (r.ext ac) (L.take i) + ((List.range j).flatMap (lkAt M p.2 (r.ext ac - p.1))).length ∧ S' = S ++ [dL l] ∧ ρ = RLK (.tuple (Ps.map Pt.py)) (.tuple (Ws.map wayP)) r (Pt.strip ac nm jn ee).py S.length (r.ext ac) (some (.int p.2)) (some (.int p.1)) v8 v9) _ 0 _ _ ⟨l, v8, v9, by simpa using hl, rfl, rfl⟩ ?_ ?_
        · rintro j d ρ S' hd' ⟨l, v8, v9, hl, rfl, rfl⟩
          rw [Nat.zero_add] at hl ⊢
          rw [List.getElem?_map, List.getElem?_map] at hd'
          cases em : M[j]? with
          | none => rw [em] at hd'; cases hd'
          | some m =>
            rw [em] at hd'
            cases hd'
            have hjM := (List.getElem?_eq_some_iff.mp em).1
            obtain ⟨_, _, hlo, hlh, hh⟩ := hM.mv m (List.mem_of_getElem? em)
            have hfl : ((List.range (j + 1)).flatMap (lkAt M p.2 (r.ext ac - p.1))).length = ((List.range j).flatMap (lkAt M p.2 (r.ext ac - p.1))).length + (lkAt M p.2 (r.ext ac - p.1) j).length := by
              rw [List.range_succ, List.flatMap_append, List.length_append]; simp
            have hla := lkAt_at (st := p.2) (left := r.ext ac - p.1) em
            have hlb := lk_len hhi p.2 (r.ext ac - p.1) j
            have hm2 := hM.m2
            have hwb := hbd i
            rw [hfl]
            have gm0 : ∀ S : Sto, gIx (.p m.py) (.p (.int 0)) S = .ok (.p (.int m.o)) S := fun _ => rfl
            have gm2 : ∀ S : Sto, gIx (.p m.py) (.p (.int 2)) S = .ok (.p (.int m.p)) S := fun _ => rfl
            have gm3 : ∀ S : Sto, gIx (.p m.py) (.p (.int 3)) S = .ok (.p (.int m.lo)) S := fun _ => rfl
            have gm4 : ∀ S : Sto, gIx (.p m.py) (.p (.int 4)) S = .ok (.p (.int m.hi)) S := fun _ => rfl
            by_cases ho : m.o = p.2
            · rw [if_pos ho] at hla
              have eo : ((m.o : Int) == (p.2 : Int)) = true := by rw [ho]; exact beq_self_eq_true _
              have b1 : big62 (m.lo : Int) = true := big62_nat (by omega)
              have eL : (if ((r.ext ac - p.1 : Nat) : Int) < (m.hi : Int) then ((r.ext ac - p.1 : Nat) : Int) else (m.hi : Int)) = ((min m.hi (r.ext ac - p.1) : Nat) : Int) := by split <;> omega
              have b2 : big62 (((min m.hi (r.ext ac - p.1) : Nat) : Int) + 1) = true := big62_of (by omega) (by omega)
              simp -implicitDefEqProofs only [DL.wpW, reduceIte, Nat.reduceAdd, Nat.reduceLeDiff, DL.sFor_ap, gm0, eo, gm3, gm4, esub, eL, b1, b2]
              rw [show (((min m.hi (r.ext ac - p.1) : Nat) : Int) + 1 - (m.lo : Int)).toNat = min m.hi (r.ext ac - p.1) + 1 - m.lo by omega]
              refine WS_for (fun k ρ S' => ∃ (l : List PyData) (v9 : Option D), l.length = wsum M (r.ext ac) (L.take i) + ((List.range j).flatMap (lkAt M p.2 (r.ext ac - p.1))).length + k ∧ S' = S ++ [dL l] ∧ ρ = RLK (.tuple (Ps.map Pt.py)) (.tuple (Ws.map wayP)) r (Pt.strip ac nm jn ee).py S.length (r.ext ac) (some (.int p.2)) (some (.int p.1)) (some (.p m.py)) v9) _ 0 _ _ ⟨l, v9, by omega, rfl, rfl⟩ ?_ ?_
              · rintro k d ρ S' hd2 ⟨l, v9, hl, rfl, rfl⟩
                obtain ⟨hk, rfl⟩ := rngL_get hd2
                have hk : k < min m.hi (r.ext ac - p.1) + 1 - m.lo := hk
                have ek : (m.lo : Int) + (k : Int) = ((m.lo + k : Nat) : Int) := by omega
                have hL0 : l.length < 16777216 := by omega
                simp -implicitDefEqProofs only [DL.wpW, reduceIte, Nat.reduceAdd, Nat.reduceLeDiff, DL.sFor_ap, ek, gm2, tg0]
                refine piece_wp (hcl l) ?_
                simp -implicitDefEqProofs only [DL.wpW, reduceIte, Nat.reduceAdd, Nat.reduceLeDiff, DL.sFor_ap, tg0, ts0, List.length_map, hL0, dL_snoc]
                exact ⟨by trivial, l ++ [(r.piece ac m.p p.1 (m.lo + k)).py], _, by rw [List.length_append, List.length_singleton]; omega, by trivial, rfl⟩
              · rintro ρ S' ⟨l, v9, hl, rfl, rfl⟩
                rw [rngL_length, Nat.zero_add] at hl
                exact ⟨by trivial, l, _, _, by omega, by trivial, rfl⟩
            · rw [if_neg ho] at hla
              have eo : ((m.o : Int) == (p.2 : Int)) = false := beq_eq_false_iff_ne.mpr (by omega)
              simp -implicitDefEqProofs only [DL.wpW, reduceIte, Nat.reduceAdd, Nat.reduceLeDiff, DL.sFor_ap, gm0, eo]
              exact ⟨by trivial, l, _, _, by omega, by trivial, rfl⟩
        · rintro ρ S' ⟨l, v8, v9, hl, rfl, rfl⟩
          rw [List.length_map, List.length_map, Nat.zero_add] at hl
          exact ⟨trivial, l, _, _, _, _, by rw [wsum_snoc ep]; exact hl, rfl, rfl⟩
    · rintro ρ S' ⟨l, v6, v7, v8, v9, hl, rfl, rfl⟩
      rw [List.length_map, List.length_map, Nat.zero_add, List.take_length] at hl
      exact ⟨L, l, v6, v7, v8, v9, hL, hl, rfl, rfl⟩
  rintro ρ S' ⟨L, l, v6, v7, v8, v9, hL, hl, rfl, rfl⟩
  have rs : restD (.ob S.length) (S ++ [dL l]) = some (.list l, S ++ [.fz l]) := rest_top
  simp -implicitDefEqProofs only [DL.wpW, reduceIte, Nat.reduceAdd, Nat.reduceLeDiff, DL.sFor_ap, rs]
  exact ⟨L, l, hL, hl, by trivial, _, rfl⟩
theorem llooks0_wp {pt : Pt} {wd : PyData} (hp : Ps[r.p]? = some pt) (hno : pt.isStrip = false) (hc : ClS 0 S) (q : Q (.p (.list [])) S) : WE (G_law_looks [.p (.tuple (Ps.map Pt.py)), .p wd, .p r.py] S) Q E := by
  refine WE_def (fun d S' => d = .p (.list []) ∧ ∃ T, S' = S ++ T) ?_ (fun d S' ⟨e1, T, e2⟩ => ⟨_, S, T, e1, e2, rfl, hc, q⟩)
  rw [show start0 NN_law_looks [.p (.tuple (Ps.map Pt.py)), .p wd, .p r.py] = [some (.p (.tuple (Ps.map Pt.py))), some (.p wd), some (.p r.py), none, none, none, none, none, none, none] from rfl]
  unfold B_law_looks
  have g0 : ∀ S : Sto, gIx (.p r.py) (.p (.int 0)) S = .ok (.p (.int r.p)) S := fun _ => rfl
  refine WS_cut (fun ρ S' => S' = S ∧ ρ = [some (.p (.tuple (Ps.map Pt.py))), some (.p wd), some (.p r.py), some (.p pt.py), none, none, none, none, none, none]) ?_ ?_
  · simp -implicitDefEqProofs only [DL.wpW, reduceIte, Nat.reduceAdd, Nat.reduceLeDiff, DL.sFor_ap, g0, List.getElem?_map, hp]
    all_goals exact ⟨by trivial, by trivial⟩
  rintro ρ S' ⟨e1, rfl⟩
  rw [e1]
  clear e1 S'
  refine WS_cut (fun ρ S' => S' = S ++ [dL ([] : List PyData)] ∧ ρ = [some (.p (.tuple (Ps.map Pt.py))), some (.p wd), some (.p r.py), some (.p pt.py), some (.ob S.length), none, none, none, none, none]) ?_ ?_
  · simp -implicitDefEqProofs only [DL.wpW, reduceIte, Nat.reduceAdd, Nat.reduceLeDiff, DL.sFor_ap]
    exact ⟨by simp [dL], by simp⟩
  rintro ρ S' ⟨rfl, rfl⟩
  refine WS_cut (fun ρ S' => S' = S ++ [dL ([] : List PyData)] ∧ ρ = [some (.p (.tuple (Ps.map Pt.py))), some (.p wd), some (.p r.py), some (.p pt.py), some (.ob S.length), none, none, none, none, none]) ?_ ?_
  · simp -implicitDefEqProofs only [DL.wpW, reduceIte, Nat.reduceAdd, Nat.reduceLeDiff, DL.sFor_ap]
    refine lawstrip_wp (clS_app hc (clS_one clO_p)) ?_
    simp -implicitDefEqProofs only [DL.wpW, reduceIte, Nat.reduceAdd, Nat.reduceLeDiff, DL.sFor_ap, hno]
    all_goals exact ⟨by trivial, by trivial⟩
  rintro ρ S' ⟨rfl, rfl⟩
  have rs : restD (.ob S.length) (S ++ [dL ([] : List PyData)]) = some (.list [], S ++ [.fz []]) := rest_top
  simp -implicitDefEqProofs only [DL.wpW, reduceIte, Nat.reduceAdd, Nat.reduceLeDiff, DL.sFor_ap, rs]
  exact ⟨by trivial, _, rfl⟩
end
end My

namespace My
open PySem PySem.Spec PyProof.Rows L2 DL
theorem sLen (a b : Str) : (a ++ b).length = a.length + b.length := by
  show (a.cps ++ b.cps).size = _
  rw [Array.size_append]; rfl
theorem natText_len {n : Nat} (h : n < 10000) : (PyData.shown (.int n)).length ≤ 5 := by
  show (Str.ofString (toString (n : Int))).length ≤ 5
  rw [PySem.ofString_length]
  exact int_text_length_le10 (k := 4) (by decide) (by simpa using h)
theorem tupT_len (ts : List Str) : (tupleText ts).length ≤ piled ts + 3 := by
  have e : (tupleText ts).length = 1 + (Str.join ", " ts).length + (Str.ofString (if ts.length == 1 then ",)" else ")" : String)).length := by
    unfold tupleText
    rw [sLen, sLen]; rfl
  have e2 : (Str.ofString (if ts.length == 1 then ",)" else ")" : String)).length ≤ 2 := by
    split <;> decide +kernel
  rw [e]
  by_cases h : ts = []
  · subst h
    have : (Str.join ", " []).length = 0 := by decide +kernel
    omega
  · have := join_length_add ts h
    omega
theorem lisT_len : ∀ ts : List Str, (listText ts).length ≤ piled ts + 4
  | [] => by decide +kernel
  | t :: r => by
    have h := textFrom_length_pos r 1 (("[" : Str) ++ (if (0 : Nat) > 0 then ", " else "" : String) ++ t) (Nat.succ_pos 0)
    have e : ((("[" : Str) ++ (if (0 : Nat) > 0 then ", " else "" : String) ++ t)).length = 1 + t.length := by
      rw [sLen, sLen]; rfl
    have hX : (listText (t :: r)).length = (textFrom 0 "[" (t :: r)).length + 1 := by
      show (textFrom 0 "[" (t :: r) ++ "]").length = _
      rw [sLen]; rfl
    have hY : (textFrom 0 "[" (t :: r)).length = (textFrom 1 (("[" : Str) ++ (if (0 : Nat) > 0 then ", " else "" : String) ++ t) r).length := rfl
    rw [hX, hY, h, e, piled_cons]; omega
theorem big4 {k : Nat} (hk : k < 10000) : (k : Int).natAbs.log2 < 1920 := by
  rw [Int.natAbs_natCast]
  by_cases h0 : k = 0
  · subst h0; decide
  · exact (Nat.log2_lt h0).mpr (Nat.lt_of_lt_of_le hk (Nat.le_trans (by decide : 10000 ≤ 2 ^ 14) (Nat.pow_le_pow_right (by decide) (by decide))))
theorem pairs_shown : ∀ l : List (Nat × Nat), (∀ p ∈ l, p.1 < 10000 ∧ p.2 < 10000) → piled (PyData.shownAll (l.map pD)) ≤ 19 * l.length ∧ PyData.showableAll (l.map pD) = true ∧ PyData.depthAll (l.map pD) ≤ 1
  | [], _ => by simp [PyData.shownAll, PyData.showableAll, PyData.depthAll, piled]
  | p :: l, h => by
    obtain ⟨h1, h2⟩ := h p List.mem_cons_self
    obtain ⟨i1, i2, i3⟩ := pairs_shown l fun q hq => h q (List.mem_cons_of_mem _ hq)
    have t1 := natText_len h1
    have t2 := natText_len h2
    have tr := tupT_len [PyData.shown (.int p.1), PyData.shown (.int p.2)]
    have p2 : piled [PyData.shown (.int p.1), PyData.shown (.int p.2)] = (PyData.shown (.int p.1)).length + 2 + ((PyData.shown (.int p.2)).length + 2) := by simp [piled]
    have e : PyData.shownAll ((p :: l).map pD) = tupleText [PyData.shown (.int p.1), PyData.shown (.int p.2)] :: PyData.shownAll (l.map pD) := by
      rw [List.map_cons]
      simp only [pD, PyData.shownAll, PyData.shown]
    refine ⟨?_, ?_, ?_⟩
    · rw [e, piled_cons, List.length_cons]
      omega
    · rw [List.map_cons]
      simp only [pD, PyData.showableAll, PyData.showable, decide_eq_true (big4 h1), decide_eq_true (big4 h2), Bool.and_self, Bool.true_and]
      exact i2
    · rw [List.map_cons]
      simp only [pD, PyData.depthAll, PyData.depth]
      omega
theorem repr_pairs {l : List (Nat × Nat)} (h : ∀ p ∈ l, p.1 < 10000 ∧ p.2 < 10000) (hl : l.length ≤ 1000) {S : Sto} : gReprA [.p (.list (l.map pD))] S = .ok (.str (PyData.shown (.list (l.map pD)))) S := by
  obtain ⟨h1, h2, h3⟩ := pairs_shown l h
  have hlay := (pDs_lay l).1
  have hs : (PyData.shown (.list (l.map pD))).length ≤ sizeLine := by
    have : PyData.shown (.list (l.map pD)) = listText (PyData.shownAll (l.map pD)) := by simp only [PyData.shown]
    rw [this, sizeLine_eq]
    have := lisT_len (PyData.shownAll (l.map pD))
    omega
  have hsh : PyData.showable (.list (l.map pD)) = true := by simpa only [PyData.showable] using h2
  have hd : PyData.hasDict (.list (l.map pD)) = false := PyData.hasDict_of_canLay _ (by simp only [PyData.canLay0]; exact hlay)
  unfold gReprA
  have e1 : pNow S (.p (.list (l.map pD))) = some (.list (l.map pD)) := rfl
  have e2 : boxD (.list (l.map pD)) = true := rfl
  simp only [e1, e2, if_true]
  rw [if_pos ⟨hsh, hd, by simp only [PyData.depth]; omega, hs⟩]
theorem repr_nat {n : Nat} (h : n < 1000000) {S : Sto} : ∃ t, gReprA [.p (.int (n : Nat))] S = .ok (.str t) S := by
  have hb : (n : Int).natAbs.log2 < 1920 := by
    rw [Int.natAbs_natCast]
    by_cases h0 : n = 0
    · subst h0; decide
    · exact (Nat.log2_lt h0).mpr (Nat.lt_of_lt_of_le h (Nat.le_trans (by decide : 1000000 ≤ 2 ^ 20) (Nat.pow_le_pow_right (by decide) (by decide))))
  have e1 : pNow S (.p (.int (n : Nat))) = some (.int n) := rfl
  have e2 : boxD (.int (n : Nat)) = false := rfl
  refine ⟨toString (n : Int), ?_⟩
  unfold gReprA
  simp only [e1, e2]
  show gRepr [.p (.int (n : Nat))] S = _
  unfold gRepr
  show (if (n : Int).natAbs.log2 < 1920 then Rs.ok (D.str (Str.ofString (toString (n : Int)))) S else Rs.st) = _
  rw [if_pos hb]
section
variable {S : Sto} {Q : D → Sto → Prop} {E : Xc → Sto → Prop}
theorem same_wp {d : PyData} {t : Str} (h : gReprA [.p d] S = .ok (.str t) S) (hc : ClS 0 S) (q : Q (.bl true) S) : WE (G_law_same [.p d, .p d] S) Q E := by
  refine WE_def (fun d S' => d = .bl true ∧ S' = S) ?_ (fun d S' ⟨e1, e2⟩ => ⟨_, S, [], e1, by rw [e2, List.append_nil], rfl, hc, q⟩)
  rw [show start0 NN_law_same [.p d, .p d] = [some (.p d), some (.p d)] from rfl]
  unfold B_law_same
  simp -implicitDefEqProofs only [DL.wpW, reduceIte, Nat.reduceAdd, Nat.reduceLeDiff, DL.sFor_ap, h, beq_self_eq_true]
  all_goals exact ⟨by trivial, by trivial⟩
end
end My

namespace My
open PySem PySem.Spec PyProof.Rows L2 DL
theorem wsum_le {EE : List Bool} {M : List Mv} {far : Nat} {L : List Sp} (hM : MOk EE M) (hLl : L.length ≤ 153) : wsum M far L < 1000000 := by
  have hhi : ∀ x ∈ M, x.hi ≤ 16 := fun x hx => (hM.mv x hx).2.2.2.2
  have key : ∀ l : List Sp, (l.map fun p => (lk M p.2 (far - p.1)).length).sum ≤ l.length * 1400 := fun l => by
    induction l with
    | nil => simp
    | cons a l ih =>
      have h1 : (lk M a.2 (far - a.1)).length ≤ M.length * 17 := lk_len hhi a.2 (far - a.1) M.length
      have h2 := hM.m2
      rw [List.map_cons, List.sum_cons, List.length_cons, Nat.succ_mul]
      omega
  have h := key L
  have h3 : L.length * 1400 ≤ 153 * 1400 := Nat.mul_le_mul_right _ hLl
  unfold wsum
  omega
abbrev LV (ns : List Int) (v1 : Nat) (pd wd : PyData) (v4 v5 v6 v7 v8 : Option D) : DL.Env := [some (.scr ns), some (.ob v1), some (.p pd), some (.p wd), v4, v5, v6, v7, v8]
theorem law_true (ns : List Int) (hl : ns.length ≤ 63) : ∃ S', G_law [.scr ns] [] = .ok (.bl true) S' := by
  refine WE_true ?_
  refine WE_def (fun d _ => d = .bl true) ?_ (fun d S' h => ⟨_, [], S', h, rfl, rfl, clS_nil, rfl⟩)
  rw [show start0 NN_law [.scr ns] = [some (.scr ns), none, none, none, none, none, none, none, none] from rfl]
  unfold B_law
  refine WS_cut (fun ρ S => ∃ b, IsBox b ∧ S = [b] ∧ ρ = [some (.scr ns), some (.ob 0), none, none, none, none, none, none, none]) ?_ ?_
  · simp -implicitDefEqProofs only [DL.wpW, reduceIte, Nat.reduceAdd, Nat.reduceLeDiff, DL.sFor_ap]
    refine digits_wp (lo := 0) (hi := 16) clS_nil (by decide) (by decide) fun dg => ?_
    simp -implicitDefEqProofs only [DL.wpW, reduceIte, Nat.reduceAdd, Nat.reduceLeDiff, DL.sFor_ap]
    exact ⟨_, ⟨dg, 0, rfl⟩, by trivial, by trivial⟩
  rintro ρ S ⟨b, hb, rfl, rfl⟩
  refine WS_cut (fun ρ S => ∃ (b : O) (Ps : List Pt) (st : Nat), IsBox b ∧ PsOk 3 st Ps ∧ st ≤ 3 ∧ S = [b] ∧ ρ = [some (.scr ns), some (.ob 0), some (.p (.tuple (Ps.map Pt.py))), none, none, none, none, none, none]) ?_ ?_
  · simp -implicitDefEqProofs only [DL.wpW, reduceIte, Nat.reduceAdd, Nat.reduceLeDiff, DL.sFor_ap]
    refine draw_wp (n := 0) (S := [b]) rfl hb (by decide) (clS_one hb.cl) fun v b1 h0 h1 hb1 => ?_
    obtain ⟨v, rfl⟩ := Int.eq_ofNat_of_zero_le h0
    simp -implicitDefEqProofs only [DL.wpW, reduceIte, Nat.reduceAdd, Nat.reduceLeDiff, DL.sFor_ap]
    rw [show (1 : Int) + (v : Int) = ((1 + v : Nat) : Int) by omega]
    refine parts_wp (n := 0) (S := [b1]) (wide := 3) (strips := 1 + v) rfl hb1 (clS_one hb1.cl) (by decide) (by decide) (by omega) fun b2 Ps hb2 hP => ?_
    try simp -implicitDefEqProofs only [DL.wpW, reduceIte, Nat.reduceAdd, Nat.reduceLeDiff, DL.sFor_ap]
    exact ⟨b2, Ps, 1 + v, hb2, hP, by omega, by trivial, by trivial⟩
  rintro ρ S ⟨b, Ps, st, hb, hP, hst, rfl, rfl⟩
  have hsm := hP.small
  have hPl := hP.len
  refine WS_cut (fun ρ S => S = [b] ∧ ρ = LV ns 0 (.tuple (Ps.map Pt.py)) (.tuple ((Ps.map wayOf).map wayP)) none none none none none) ?_ ?_
  · simp -implicitDefEqProofs only [DL.wpW, reduceIte, Nat.reduceAdd, Nat.reduceLeDiff, DL.sFor_ap]
    refine machines_wp hsm (by omega) (clS_one hb.cl) ?_
    try simp -implicitDefEqProofs only [DL.wpW, reduceIte, Nat.reduceAdd, Nat.reduceLeDiff, DL.sFor_ap]
    all_goals exact ⟨by trivial, by trivial⟩
  rintro ρ S ⟨rfl, rfl⟩
  refine WS_cut (fun ρ S => ∃ b2, IsBox b2 ∧ S = [b, b2] ∧ ρ = LV ns 1 (.tuple (Ps.map Pt.py)) (.tuple ((Ps.map wayOf).map wayP)) none none none none none) ?_ ?_
  · simp -implicitDefEqProofs only [DL.wpW, reduceIte, Nat.reduceAdd, Nat.reduceLeDiff, DL.sFor_ap]
    refine digits_wp (lo := 16) (hi := 40) (clS_one hb.cl) (by decide) (by decide) fun dg => ?_
    simp -implicitDefEqProofs only [DL.wpW, reduceIte, Nat.reduceAdd, Nat.reduceLeDiff, DL.sFor_ap]
    exact ⟨_, ⟨dg, 0, rfl⟩, by trivial, by trivial⟩
  rintro ρ S ⟨b2, hb2, rfl, rfl⟩
  obtain ⟨lc, hlc1, hlc2, hlc3, hlf, hstr⟩ := hP.at
  refine WS_cut (fun _ _ => True) ?_ (fun ρ S _ => ?_)
  · have bn : big62 (Ps.length : Int) = true := big62_nat (by omega)
    have b22 : big62 2 = true := big62_of (by decide) (by decide)
    simp -implicitDefEqProofs only [DL.wpW, reduceIte, Nat.reduceAdd, Nat.reduceLeDiff, DL.sFor_ap, List.length_map, bn, Int.toNat_natCast]
    refine WS_for (fun i ρ S' => ∃ (b2 : O) (v4 v5 v6 v7 v8 : Option D), IsBox b2 ∧ S' = [b, b2] ∧ ρ = LV ns 1 (.tuple (Ps.map Pt.py)) (.tuple ((Ps.map wayOf).map wayP)) v4 v5 v6 v7 v8) _ 0 _ _ ⟨b2, none, none, none, none, none, hb2, rfl, rfl⟩ ?_ (fun _ _ _ => trivial)
    rintro i d ρ S' hd ⟨b2, v4, v5, v6, v7, v8, hb2, rfl, rfl⟩
    obtain ⟨hi, rfl⟩ := rngL_get hd
    have hi : i < Ps.length := hi
    have ep : Ps[i]? = some Ps[i] := List.getElem?_eq_getElem hi
    generalize Ps[i] = pt at ep
    simp -implicitDefEqProofs only [DL.wpW, reduceIte, Nat.reduceAdd, Nat.reduceLeDiff, DL.sFor_ap, b22, Int.zero_add]
    refine WS_for (fun t ρ S' => ∃ (b2 : O) (v5 v6 v7 v8 : Option D), IsBox b2 ∧ S' = [b, b2] ∧ ρ = LV ns 1 (.tuple (Ps.map Pt.py)) (.tuple ((Ps.map wayOf).map wayP)) (some (.int (i : Nat))) v5 v6 v7 v8) _ 0 _ _ ⟨b2, v5, v6, v7, v8, hb2, rfl, rfl⟩ ?_ ?_
    · rintro t d ρ S' hd2 ⟨b2, v5, v6, v7, v8, hb2, rfl, rfl⟩
      obtain ⟨ht, rfl⟩ := rngL_get hd2
      simp only [gNm_ap, WE_ok, List.set_cons_succ, List.set_cons_zero, Int.zero_add]
      refine WS_cut (fun ρ S' => ∃ (b2 : O) (mo : Nat), IsBox b2 ∧ 1 ≤ mo ∧ mo ≤ 16 ∧ S' = [b, b2] ∧ ρ = LV ns 1 (.tuple (Ps.map Pt.py)) (.tuple ((Ps.map wayOf).map wayP)) (some (.int (i : Nat))) (some (.int (t : Nat))) (some (.int (mo : Nat))) v7 v8) ?_ ?_
      · simp -implicitDefEqProofs only [DL.wpW, reduceIte, Nat.reduceAdd, Nat.reduceLeDiff, DL.sFor_ap]
        refine draw_wp (n := 1) (S := [b, b2]) rfl hb2 (by decide) (clS_cons hb.cl (clS_one hb2.cl)) fun v b3 h0 h1 hb3 => ?_
        have h2 : v = 0 ∨ v = 1 ∨ v = 2 := by omega
        rcases h2 with rfl | rfl | rfl
        · simp -implicitDefEqProofs only [DL.wpW, reduceIte, Nat.reduceAdd, Nat.reduceLeDiff, DL.sFor_ap]
          exact ⟨b3, 4, hb3, by decide, by decide, by trivial, by trivial⟩
        · simp -implicitDefEqProofs only [DL.wpW, reduceIte, Nat.reduceAdd, Nat.reduceLeDiff, DL.sFor_ap]
          exact ⟨b3, 7, hb3, by decide, by decide, by trivial, by trivial⟩
        · simp -implicitDefEqProofs only [DL.wpW, reduceIte, Nat.reduceAdd, Nat.reduceLeDiff, DL.sFor_ap]
          exact ⟨b3, 16, hb3, by decide, by decide, by trivial, by trivial⟩
      rintro ρ S' ⟨b3, mo, hb3, hm1, hm2, rfl, rfl⟩
      refine WS_cut (fun ρ S' => ∃ (b2 : O) (r : Rg), IsBox b2 ∧ r.p = i ∧ r.w ≤ 16 ∧ r.h ≤ 16 ∧ S' = [b, b2] ∧ ρ = LV ns 1 (.tuple (Ps.map Pt.py)) (.tuple ((Ps.map wayOf).map wayP)) (some (.int (i : Nat))) (some (.int (t : Nat))) (some (.int (mo : Nat))) (some (.p r.py)) v8) ?_ ?_
      · simp -implicitDefEqProofs only [DL.wpW, reduceIte, Nat.reduceAdd, Nat.reduceLeDiff, DL.sFor_ap]
        refine draw_wp (n := 1) (S := [b, b3]) rfl hb3 (by decide) (clS_cons hb.cl (clS_one hb3.cl)) fun x b4 h0 _ hb4 => ?_
        obtain ⟨x, rfl⟩ := Int.eq_ofNat_of_zero_le h0
        simp -implicitDefEqProofs only [DL.wpW, reduceIte, Nat.reduceAdd, Nat.reduceLeDiff, DL.sFor_ap]
        refine draw_wp (n := 1) (S := [b, b4]) rfl hb4 (by decide) (clS_cons hb.cl (clS_one hb4.cl)) fun y b5 h0 _ hb5 => ?_
        obtain ⟨y, rfl⟩ := Int.eq_ofNat_of_zero_le h0
        simp -implicitDefEqProofs only [DL.wpW, reduceIte, Nat.reduceAdd, Nat.reduceLeDiff, DL.sFor_ap]
        refine draw_wp (n := 1) (S := [b, b5]) rfl hb5 (by omega) (clS_cons hb.cl (clS_one hb5.cl)) fun w b6 h0 hw1 hb6 => ?_
        obtain ⟨w, rfl⟩ := Int.eq_ofNat_of_zero_le h0
        simp -implicitDefEqProofs only [DL.wpW, reduceIte, Nat.reduceAdd, Nat.reduceLeDiff, DL.sFor_ap]
        refine draw_wp (n := 1) (S := [b, b6]) rfl hb6 (by omega) (clS_cons hb.cl (clS_one hb6.cl)) fun h b7 h0 hh1 hb7 => ?_
        obtain ⟨h, rfl⟩ := Int.eq_ofNat_of_zero_le h0
        simp -implicitDefEqProofs only [DL.wpW, reduceIte, Nat.reduceAdd, Nat.reduceLeDiff, DL.sFor_ap]
        exact ⟨b7, ⟨i, x, y, 1 + w, 1 + h⟩, hb7, rfl, by simp only; omega, by simp only; omega, by trivial, by simp [Rg.py]⟩
      rintro ρ S' ⟨b4, r, hb4, rfl, hw16, hh16, rfl, rfl⟩
      have hc : ClS 0 [b, b4] := clS_cons hb.cl (clS_one hb4.cl)
      by_cases hs : pt.isStrip = true
      · cases pt with
        | plain _ _ _ _ => cases hs
        | shape _ _ _ _ _ _ => cases hs
        | strip ac nm jn ee =>
          have hll : lc ≤ r.p := by
            by_cases hh : lc ≤ r.p
            · exact hh
            · exact absurd (hlf r.p _ ep (by omega)) (fun z => z)
          obtain ⟨ac', nm', j', e', he, hok⟩ := hstr r.p _ ep hll
          cases he
          have hcn := hok.cnt
          have hM : MOk (machE ee) (machM ee) := mach_ok hok (by omega)
          have hw : (Ps.map wayOf)[r.p]? = some (some (machE ee, machM ee)) := by rw [List.getElem?_map, ep]; rfl
          have hf : r.ext ac ≤ 16 := by unfold Rg.ext; split <;> omega
          refine WS_cut (fun ρ S' => S' = [b, b4] ∧ ρ = LV ns 1 (.tuple (Ps.map Pt.py)) (.tuple ((Ps.map wayOf).map wayP)) (some (.int (r.p : Nat))) (some (.int (t : Nat))) (some (.int (mo : Nat))) (some (.p r.py)) v8) ?_ ?_
          · simp -implicitDefEqProofs only [DL.wpW, reduceIte, Nat.reduceAdd, Nat.reduceLeDiff, DL.sFor_ap]
            refine lcount_wp hsm (by omega) ep hw hM hf hc fun L hL => ?_
            try simp -implicitDefEqProofs only [DL.wpW, reduceIte, Nat.reduceAdd, Nat.reduceLeDiff, DL.sFor_ap]
            refine llooks_wp ep hw hM hf hc fun L2 l hL2 hl2 => ?_
            obtain rfl := hL.uniq hL2
            obtain ⟨tx, htx⟩ := repr_nat (n := wsum (machM ee) (r.ext ac) L) (wsum_le hM (hL.len hM hf)) (S := [b, b4])
            simp -implicitDefEqProofs only [DL.wpW, reduceIte, Nat.reduceAdd, Nat.reduceLeDiff, DL.sFor_ap, hl2]
            refine same_wp htx hc ?_
            simp -implicitDefEqProofs only [DL.wpW, reduceIte, Nat.reduceAdd, Nat.reduceLeDiff, DL.sFor_ap]
            all_goals exact ⟨by trivial, by trivial⟩
          rintro ρ S' ⟨rfl, rfl⟩
          simp -implicitDefEqProofs only [DL.wpW, reduceIte, Nat.reduceAdd, Nat.reduceLeDiff, DL.sFor_ap, List.getElem?_map, ep]
          refine lawstrip_wp hc ?_
          simp -implicitDefEqProofs only [DL.wpW, reduceIte, Nat.reduceAdd, Nat.reduceLeDiff, DL.sFor_ap, Pt.isStrip, List.getElem?_map, ep]
          refine ext_wp hc ?_
          try simp -implicitDefEqProofs only [DL.wpW, reduceIte, Nat.reduceAdd, Nat.reduceLeDiff, DL.sFor_ap]
          refine lreached_wp hw hM hf hc fun L hL => ?_
          try simp -implicitDefEqProofs only [DL.wpW, reduceIte, Nat.reduceAdd, Nat.reduceLeDiff, DL.sFor_ap]
          refine spots_wp hsm (by omega) ep hw hM hf hc fun L2 hL2 => ?_
          obtain rfl := hL.uniq hL2
          have hr : gReprA [.p (.list (L.map fun p => pD (p.2, p.1)))] [b, b4] = .ok (.str (PyData.shown (.list (L.map fun p => pD (p.2, p.1))))) [b, b4] := by
            have e : (L.map fun p => pD (p.2, p.1)) = (L.map fun p => (p.2, p.1)).map pD := by rw [List.map_map]; rfl
            rw [e]
            refine repr_pairs (fun p hp => ?_) (by rw [List.length_map]; have := hL.len hM hf; omega)
            obtain ⟨q, hq, rfl⟩ := List.mem_map.mp hp
            have := ((hL.m q).mp hq).bd hM
            have := hM.e2
            simp only
            omega
          try simp -implicitDefEqProofs only [DL.wpW, reduceIte, Nat.reduceAdd, Nat.reduceLeDiff, DL.sFor_ap]
          refine same_wp hr hc ?_
          simp -implicitDefEqProofs only [DL.wpW, reduceIte, Nat.reduceAdd, Nat.reduceLeDiff, DL.sFor_ap]
          exact ⟨by trivial, b4, _, _, _, _, hb4, rfl, rfl⟩
      · have hs : pt.isStrip = false := by simpa using hs
        refine WS_cut (fun ρ S' => S' = [b, b4] ∧ ρ = LV ns 1 (.tuple (Ps.map Pt.py)) (.tuple ((Ps.map wayOf).map wayP)) (some (.int (r.p : Nat))) (some (.int (t : Nat))) (some (.int (mo : Nat))) (some (.p r.py)) v8) ?_ ?_
        · simp -implicitDefEqProofs only [DL.wpW, reduceIte, Nat.reduceAdd, Nat.reduceLeDiff, DL.sFor_ap]
          refine lcount0_wp hsm (by omega) ep hs hc ?_
          try simp -implicitDefEqProofs only [DL.wpW, reduceIte, Nat.reduceAdd, Nat.reduceLeDiff, DL.sFor_ap]
          refine llooks0_wp ep hs hc ?_
          obtain ⟨tx, htx⟩ := repr_nat (n := 0) (by decide) (S := [b, b4])
          simp -implicitDefEqProofs only [DL.wpW, reduceIte, Nat.reduceAdd, Nat.reduceLeDiff, DL.sFor_ap, List.length_nil]
          refine same_wp htx hc ?_
          simp -implicitDefEqProofs only [DL.wpW, reduceIte, Nat.reduceAdd, Nat.reduceLeDiff, DL.sFor_ap]
          all_goals exact ⟨by trivial, by trivial⟩
        rintro ρ S' ⟨rfl, rfl⟩
        simp -implicitDefEqProofs only [DL.wpW, reduceIte, Nat.reduceAdd, Nat.reduceLeDiff, DL.sFor_ap, List.getElem?_map, ep]
        refine lawstrip_wp hc ?_
        simp -implicitDefEqProofs only [DL.wpW, reduceIte, Nat.reduceAdd, Nat.reduceLeDiff, DL.sFor_ap, hs]
        exact ⟨by trivial, b4, _, _, _, _, hb4, rfl, rfl⟩
    · rintro ρ S' ⟨b2, v5, v6, v7, v8, hb2, rfl, rfl⟩
      exact ⟨by trivial, b2, _, _, _, _, _, hb2, rfl, rfl⟩
  · simp -implicitDefEqProofs only [DL.wpW, reduceIte, Nat.reduceAdd, Nat.reduceLeDiff, DL.sFor_ap]
    all_goals trivial
end My

open PySem PySem.W PySem.Calls PyProof.Rows
theorem PySem.Challenge.cw_surelyread_k16_spots_reach_holds : PySem.Challenge.rw_surelyread_k16_spots_reach.Holds := by
  w_on; o_law
  refine HandSHeadRun.head_any (r := PySem.W.OpenLaw.row PySem.Challenge.rw_surelyread_k16_spots_reach) (q := PySem.W.view (PySem.W.OpenLaw.row PySem.Challenge.rw_surelyread_k16_spots_reach).prog [32]) (H := My.hkD) (ob := DL.obM 4 My.faD My.fnsD My.moreD) (M := 6000) (loose := My.namesD) (d := HandSHeadRun.topDef (PySem.W.OpenLaw.row PySem.Challenge.rw_surelyread_k16_spots_reach).prog 32) (kwd := []) DL.obM_eq
    (by kernel_rfl) (fun s => by kernel_rfl) My.runD (by kernel_rfl) (by kernel_rfl) (by kernel_rfl) (by rfl) (by first | assumption | decide +kernel) (by decide +kernel) ⟨rfl, rfl, rfl, rfl, rfl, by decide +kernel⟩ ?hw ?hc
  case hw => w_witness2
  case hc =>
    refine DL.walk_at (l := PySem.Challenge.rw_surelyread_k16_spots_reach) (n := 63) (k := 0) (x := "script") rfl (by rw [PySem.sizeLine_eq]; decide) (by kernel_rfl) ?F
    intro w mg fa h Y G hmg0
    obtain ⟨K, KX, c, cm⟩ := Y
    have hmg : mg ("law" : PySem.Str) = some (.ref fa) := by
      have e : (HandSHeadRun.topDef (PySem.W.OpenLaw.row PySem.Challenge.rw_surelyread_k16_spots_reach).prog 32).name = ("law" : PySem.Str) := by kernel_rfl
      rw [← e]
      exact hmg0
    refine ⟨K, DL.spOf K mg 1 (fun ds S => DL.noEx (My.G_law ds S)), KX, fun H a ns hl hO hS => ?_, fun base s H a Q E kb nb e0 hsp => ?_⟩
    · obtain ⟨S', e⟩ := My.law_true ns hl
      exact DL.law_sp hO hS e
    · obtain ⟨f2, fd2, e2, U2, run⟩ := My.all_fns (P := (PySem.Challenge.rw_surelyread_k16_spots_reach).prog) (w := w) (base := base) KX G c cm
      have z := e2.symm.trans hmg
      cases z
      exact run s H a Q E e0 hsp
