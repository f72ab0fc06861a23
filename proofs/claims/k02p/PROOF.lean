import PyProof.Rows.All
import Wide.All
import OpenK.AllK
import Wide.FinOn
import HandS.ForMost
import HandS.ForExc
import HandS.Strs
import HandS.Deep
import HandS.TupAny
import HandS.TupLe
import HandS.IsInst
import HandS.Conv
import HandS.Wide
import HandS.ExcOwn
import HandS.StrMore
import HandS.ExcCtx
import HandS.HotCalls
import HandS.ExcIs
import HandS.NestedHot
import KE.KExcIs
import HandS.ExcField
import HandS.Defaults
import HandS.Head0
import HandS.Head1
import HandS.Head2
import HandS.HeadEnd
import HandS.HeadHook1
import HandS.HeadHook2
import HandS.ExcInit
import HandS.FStr
import HandS.SortInts
import KE.LtData
import HandS.SetBool
import HandS.Set
import PyProof.Rows.StrMul
import HandS.More
import KE.KDictWalk
import KE.KDictList
import HandS.SortRule
import HandS.SetKeys
import KE.KDictDisplayH
import HandS.Star
import HandS.Iter
import HandS.DictTup
import HandS.TryOnly
import HandS.Rev
import HandS.TupMul
import HandS.Zip
import HandS.DictComp
import HandS.ReplaceLit
import HandS.ReplaceList
import HandS.Text
import PySem.Challenge.RW_surelyread_k02_signs
import HandS.Codes
set_option Elab.async false
set_option linter.all false
set_option maxRecDepth 100000
set_option maxHeartbeats 4000000
namespace DL
open PySem PySem.Spec PyProof.Rows L2
abbrev St := L2.St
structure Kh where
  K : PySem.W.Frag
  h : Addr → Prop
  g : Str → Option Value
inductive D where
  | p (d : PyData)
  | ob (n : Nat)
  | scr (ns : List Int)
  | xc (a : Addr) (dd : Option Addr) (fs : List (Str × PyData))
def sV : PyData → V
  | .bool b => .bl b
  | .int i => .int i
  | .str x => .str x
  | _ => .non
def sVs (fs : List (Str × PyData)) : List (Str × V) := fs.map fun p => (p.1, sV p.2)
abbrev D.int (i : Int) : D := .p (.int i)
abbrev D.bl (b : Bool) : D := .p (.bool b)
abbrev D.str (s : Str) : D := .p (.str s)
abbrev D.non : D := .p .none
abbrev D.tup (l : List PyData) : D := .p (.tuple l)
abbrev D.lst (l : List PyData) : D := .p (.list l)
inductive O where
  | lst (l : List D)
  | fz (l : List PyData)
  | dic (kvs : List (List Key × D))
  /-- a dict with ints and texts for keys -/
  | dik (kvs : List (Key × D))
  /-- an instance of the class of this name -/
  | ins (c : Str) (fs : List (Str × D))
  /-- a dict that is walked: locked -/
  | lck
  /-- the same, of flat data -/
  | lkd (kvs : List (List Key × PyData))
abbrev Sto := List O
abbrev Env := List (Option D)
def O.live : O → Bool
  | .lst _ => true
  | .dic _ => true
  | .dik _ => true
  | .ins _ _ => true
  | _ => false
def lv (K : Kh) (m : List Addr) (S : Sto) (a : Addr) : Prop := K.h a ∨ ∃ (n : Nat) (o : O), m[n]? = some a ∧ S[n]? = some o ∧ O.live o = true
def bT (l : List PyData) : Bool := l.all fun d => match d with
  | .tuple [] => true
  | _ => false
mutual
def RP (K : Kh) (H : Hp) (L : Addr → Prop) : PyData → V → Prop
  | .none, v => v = .non
  | .bool b, v => v = .bl b
  | .int i, v => v = .int i
  | .str x, v => v = .str x
  | .list l, v => ∃ a vs, v = .ref a ∧ H a = some (.lst vs) ∧ ¬ L a ∧ RPs K H L l vs
  | .tuple l, v => ∃ a vs, v = .ref a ∧ (H a = some (.tup vs) ∨ (bT l = true ∧ SqT K.K (fun _ => none) a vs)) ∧ RPs K H L l vs
  | .dict _, _ => False
def RPs (K : Kh) (H : Hp) (L : Addr → Prop) : List PyData → List V → Prop
  | [], vs => vs = []
  | d :: l, vs => ∃ v r, vs = v :: r ∧ RP K H L d v ∧ RPs K H L l r
end
def RD (K : Kh) (m : List Addr) (S : Sto) (H : Hp) : D → V → Prop
  | .p d, v => RP K H (lv K m S) d v
  | .ob n, v => ∃ a, m[n]? = some a ∧ v = .ref a
  | .scr ns, v => ∃ a, v = .ref a ∧ ((∃ o, H a = some (.frz o (.lst (ns.map V.int)))) ∨ SqL K.K (fun _ => none) a (ns.map V.int))
  | .xc a dd fs, v => v = .ref a ∧ ∀ d, dd = some d → H d = some (.xd (sVs fs))
abbrev RDs (K : Kh) (m : List Addr) (S : Sto) (H : Hp) : List D → List V → Prop := Paired (RD K m S H)
abbrev RKV (K : Kh) (m : List Addr) (S : Sto) (H : Hp) : List (List Key × D) → List (List Key × V) → Prop := Paired fun p q => p.1 = q.1 ∧ RD K m S H p.2 q.2
abbrev RKK (K : Kh) (m : List Addr) (S : Sto) (H : Hp) : List (Key × D) → List (Key × V) → Prop := Paired fun p q => p.1 = q.1 ∧ RD K m S H p.2 q.2
abbrev RFS (K : Kh) (m : List Addr) (S : Sto) (H : Hp) : List (Str × D) → List (Str × V) → Prop := Paired fun p q => p.1 = q.1 ∧ RD K m S H p.2 q.2
def flV : PyData → V → Prop
  | .none, v => v = .non
  | .bool b, v => v = .bl b
  | .int i, v => v = .int i
  | .str x, v => v = .str x
  | _, _ => False
abbrev FlP : List (List Key × PyData) → List (List Key × V) → Prop := Paired fun p q => p.1 = q.1 ∧ flV p.2 q.2
def RO (K : Kh) (m : List Addr) (S : Sto) (H : Hp) (a : Addr) : O → Prop
  | .lst l => ∃ vs, H a = some (.lst vs) ∧ RDs K m S H l vs
  | .fz l => ∃ vs, H a = some (.lst vs) ∧ RPs K H (lv K m S) l vs
  | .dic kvs => ∃ ws, H a = some (.dT ws) ∧ RKV K m S H kvs ws
  | .dik kvs => ∃ ws, H a = some (.dK ws) ∧ RKK K m S H kvs ws
  | .ins c fs => ∃ C dx ws, K.g c = some (.ref C) ∧ H a = some (.ins C dx ws) ∧ H dx = some (.own a) ∧ RFS K m S H fs ws
  | .lck => ∃ o u, H a = some (.frz o u)
  | .lkd kvs => ∃ o ws, H a = some (.frz o (.dT ws)) ∧ FlP kvs ws
def Mb : HO → Prop
  | .tup _ => False
  | .frz _ _ => False
  | .xd _ => False
  | .own _ => False
  | _ => True
structure Rl (K : Kh) (m : List Addr) (S : Sto) (H : Hp) : Prop where
  len : m.length = S.length
  nd : m.Nodup
  hid : ∀ a, K.h a → a ∉ m ∧ ∃ u, H a = some u ∧ Mb u
  obj : ∀ (n : Nat) (a : Addr) (o : O), m[n]? = some a → S[n]? = some o → RO K m S H a o
abbrev RE (K : Kh) (m : List Addr) (S : Sto) (H : Hp) : Env → St → Prop := Paired fun od ov => ∀ d, od = some d → ∃ v, ov = some v ∧ RD K m S H d v
structure Nx (K : Kh) (m : List Addr) (S : Sto) (H : Hp) (m' : List Addr) (S' : Sto) (H' : Hp) : Prop where
  tup : ∀ a vs, H a = some (.tup vs) → H' a = some (.tup vs)
  lst : ∀ a vs, H a = some (.lst vs) → ¬ lv K m S a → H' a = some (.lst vs) ∧ ¬ lv K m' S' a
  ext : ∃ t, m' = m ++ t
  frz : ∀ a o u, H a = some (.frz o u) → H' a = some (.frz o u)
  xd : ∀ a fs, H a = some (.xd fs) → H' a = some (.xd fs)
  hid : ∀ a, K.h a → H' a = H a
  own : ∀ a x, H a = some (.own x) → H' a = some (.own x)
section
variable {K : Kh} {m m' m1 m2 : List Addr} {S S' S1 S2 : Sto} {H H' H1 H2 : Hp} {L L' : Addr → Prop}
theorem Nx.refl : Nx K m S H m S H := ⟨fun _ _ h => h, fun _ _ h n => ⟨h, n⟩, ⟨[], by simp⟩, fun _ _ _ h => h, fun _ _ h => h, fun _ _ => rfl, fun _ _ h => h⟩
theorem Nx.trans (a : Nx K m S H m1 S1 H1) (b : Nx K m1 S1 H1 m2 S2 H2) : Nx K m S H m2 S2 H2 :=
  ⟨fun x vs h => b.tup x vs (a.tup x vs h), fun x vs h n => let ⟨h1, n1⟩ := a.lst x vs h n; b.lst x vs h1 n1, by
    obtain ⟨t1, rfl⟩ := a.ext
    obtain ⟨t2, rfl⟩ := b.ext
    exact ⟨t1 ++ t2, by simp⟩, fun x o u h => b.frz x o u (a.frz x o u h), fun x u h => b.xd x u (a.xd x u h), fun x h => (b.hid x h).trans (a.hid x h), fun x u h => b.own x u (a.own x u h)⟩
mutual
theorem RP.mono (ht : ∀ a vs, H a = some (.tup vs) → H' a = some (.tup vs)) (hl : ∀ a vs, H a = some (.lst vs) → ¬ L a → H' a = some (.lst vs) ∧ ¬ L' a) : ∀ (d : PyData) (v : V), RP K H L d v → RP K H' L' d v
  | .none, v, h => by simpa [RP] using h
  | .bool b, v, h => by simpa [RP] using h
  | .int i, v, h => by simpa [RP] using h
  | .str x, v, h => by simpa [RP] using h
  | .list l, v, h => by
    rw [RP] at h ⊢
    obtain ⟨a, vs, e, h1, h2, h3⟩ := h
    obtain ⟨g1, g2⟩ := hl a vs h1 h2
    exact ⟨a, vs, e, g1, g2, RPs.mono ht hl l vs h3⟩
  | .tuple l, v, h => by
    rw [RP] at h ⊢
    obtain ⟨a, vs, e, h1, h3⟩ := h
    exact ⟨a, vs, e, h1.imp (ht a vs) id, RPs.mono ht hl l vs h3⟩
  | .dict _, v, h => by rw [RP] at h; exact h.elim
theorem RPs.mono (ht : ∀ a vs, H a = some (.tup vs) → H' a = some (.tup vs)) (hl : ∀ a vs, H a = some (.lst vs) → ¬ L a → H' a = some (.lst vs) ∧ ¬ L' a) : ∀ (l : List PyData) (vs : List V), RPs K H L l vs → RPs K H' L' l vs
  | [], vs, h => by simpa [RPs] using h
  | d :: l, vs, h => by
    rw [RPs] at h ⊢
    obtain ⟨v, r, e, h1, h2⟩ := h
    exact ⟨v, r, e, RP.mono ht hl d v h1, RPs.mono ht hl l r h2⟩
end
theorem RP.nx (n : Nx K m S H m' S' H') {d : PyData} {v : V} (h : RP K H (lv K m S) d v) : RP K H' (lv K m' S') d v := RP.mono n.tup n.lst d v h
theorem RPs.nx (n : Nx K m S H m' S' H') {d : List PyData} {v : List V} (h : RPs K H (lv K m S) d v) : RPs K H' (lv K m' S') d v := RPs.mono n.tup n.lst d v h
theorem RD.nx (n : Nx K m S H m' S' H') {d : D} {v : V} (h : RD K m S H d v) : RD K m' S' H' d v := by
  cases d with
  | p d => exact RP.nx n h
  | ob k =>
    obtain ⟨a, e, rfl⟩ := h
    obtain ⟨t, rfl⟩ := n.ext
    refine ⟨a, ?_, rfl⟩
    rw [List.getElem?_append_left (List.getElem?_eq_some_iff.mp e).1]
    exact e
  | scr ns =>
    obtain ⟨a, rfl, h | h⟩ := h
    · obtain ⟨o, h⟩ := h
      exact ⟨a, rfl, .inl ⟨o, n.frz _ _ _ h⟩⟩
    · exact ⟨a, rfl, .inr h⟩
  | xc a dd fs => exact ⟨h.1, fun d e => n.xd _ _ (h.2 d e)⟩
theorem pairMono {α β : Type} {F G : α → β → Prop} (h : ∀ a b, F a b → G a b) {l : List α} {r : List β} (q : Paired F l r) : Paired G l r := by
  induction q with
  | nil => exact .nil
  | cons a _ ih => exact .cons (h _ _ a) ih
theorem RDs.nx (n : Nx K m S H m' S' H') {d : List D} {v : List V} (h : RDs K m S H d v) : RDs K m' S' H' d v := pairMono (fun _ _ => RD.nx n) h
theorem RKV.nx (n : Nx K m S H m' S' H') {d : List (List Key × D)} {v} (h : RKV K m S H d v) : RKV K m' S' H' d v := pairMono (fun _ _ q => ⟨q.1, RD.nx n q.2⟩) h
theorem RKK.nx (n : Nx K m S H m' S' H') {d : List (Key × D)} {v} (h : RKK K m S H d v) : RKK K m' S' H' d v := pairMono (fun _ _ q => ⟨q.1, RD.nx n q.2⟩) h
theorem RFS.nx (n : Nx K m S H m' S' H') {d : List (Str × D)} {v} (h : RFS K m S H d v) : RFS K m' S' H' d v := pairMono (fun _ _ q => ⟨q.1, RD.nx n q.2⟩) h
theorem RE.nx (n : Nx K m S H m' S' H') {ρ : Env} {σ : St} (h : RE K m S H ρ σ) : RE K m' S' H' ρ σ :=
  pairMono (fun _ _ q d e => let ⟨v, a, b⟩ := q d e; ⟨v, a, RD.nx n b⟩) h
theorem RPs_iff {l : List PyData} {vs : List V} : RPs K H L l vs ↔ Paired (RP K H L) l vs := by
  induction l generalizing vs with
  | nil =>
    rw [RPs]
    constructor
    · rintro rfl; exact .nil
    · intro h; cases h; rfl
  | cons d l ih =>
    rw [RPs]
    constructor
    · rintro ⟨v, r, rfl, h1, h2⟩
      exact .cons h1 (ih.mp h2)
    · intro h
      cases h with
      | cons h1 h2 => exact ⟨_, _, rfl, h1, ih.mpr h2⟩
theorem RDs_p {l : List PyData} {vs : List V} : RDs K m S H (l.map .p) vs ↔ RPs K H (lv K m S) l vs := by
  rw [RPs_iff]
  induction l generalizing vs with
  | nil =>
    constructor
    · intro h; cases h; exact .nil
    · intro h; cases h; exact .nil
  | cons d l ih =>
    rw [List.map_cons]
    constructor
    · intro h
      cases h with
      | cons h1 h2 => exact .cons h1 (ih.mp h2)
    · intro h
      cases h with
      | cons h1 h2 => exact .cons h1 (ih.mpr h2)
theorem pairLen {α β : Type} {F : α → β → Prop} {l : List α} {r : List β} (q : Paired F l r) : l.length = r.length := by
  induction q with
  | nil => rfl
  | cons a _ ih => simp [ih]
theorem pairGet {α β : Type} {F : α → β → Prop} {l : List α} {r : List β} (q : Paired F l r) {i : Nat} {a : α} (e : l[i]? = some a) : ∃ b, r[i]? = some b ∧ F a b := by
  induction q generalizing i with
  | nil => simp at e
  | cons h _ ih =>
    cases i with
    | zero =>
      simp at e
      subst e
      exact ⟨_, rfl, h⟩
    | succ i => exact ih (by simpa using e)
theorem pairSet {α β : Type} {F : α → β → Prop} {l : List α} {r : List β} (q : Paired F l r) {i : Nat} {a : α} {b : β} (h : F a b) : Paired F (l.set i a) (r.set i b) := by
  induction q generalizing i with
  | nil => exact .nil
  | cons x t ih =>
    cases i with
    | zero => exact .cons h t
    | succ i => exact .cons x ih
theorem pairApp {α β : Type} {F : α → β → Prop} {l l' : List α} {r r' : List β} (q : Paired F l r) (q' : Paired F l' r') : Paired F (l ++ l') (r ++ r') := by
  induction q with
  | nil => exact q'
  | cons x t ih => exact .cons x ih
theorem pairTake {α β : Type} {F : α → β → Prop} {l : List α} {r : List β} (q : Paired F l r) (n : Nat) : Paired F (l.take n) (r.take n) := by
  induction q generalizing n with
  | nil => simp; exact .nil
  | cons x t ih =>
    cases n with
    | zero => exact .nil
    | succ n => exact .cons x (ih n)
theorem pairDrop {α β : Type} {F : α → β → Prop} {l : List α} {r : List β} (q : Paired F l r) (n : Nat) : Paired F (l.drop n) (r.drop n) := by
  induction q generalizing n with
  | nil => simp; exact .nil
  | cons x t ih =>
    cases n with
    | zero => exact .cons x t
    | succ n => exact ih n
mutual
theorem RP.kk {K K' : Kh} (e : K.K = K'.K) : ∀ (d : PyData) (v : V), RP K H L d v → RP K' H L d v
  | .none, v, h => by simpa [RP] using h
  | .bool b, v, h => by simpa [RP] using h
  | .int i, v, h => by simpa [RP] using h
  | .str x, v, h => by simpa [RP] using h
  | .list l, v, h => by
    rw [RP] at h ⊢
    obtain ⟨a, vs, e1, h1, h2, h3⟩ := h
    exact ⟨a, vs, e1, h1, h2, RPs.kk e l vs h3⟩
  | .tuple l, v, h => by
    rw [RP] at h ⊢
    obtain ⟨a, vs, e1, h1, h3⟩ := h
    exact ⟨a, vs, e1, h1.imp id (fun ⟨b, s⟩ => ⟨b, e ▸ s⟩), RPs.kk e l vs h3⟩
  | .dict _, v, h => by rw [RP] at h; exact h.elim
theorem RPs.kk {K K' : Kh} (e : K.K = K'.K) : ∀ (l : List PyData) (vs : List V), RPs K H L l vs → RPs K' H L l vs
  | [], vs, h => by simpa [RPs] using h
  | d :: l, vs, h => by
    rw [RPs] at h ⊢
    obtain ⟨v, r, e1, h1, h2⟩ := h
    exact ⟨v, r, e1, RP.kk e d v h1, RPs.kk e l r h2⟩
end
theorem tu_sq {K : PySem.W.Frag} {a : Addr} {l : List PyData} {vs : List V} (h : H a = some (.tup vs) ∨ (bT l = true ∧ SqT K (fun _ => none) a vs)) : SqT K H a vs := by
  rcases h with h | ⟨_, h⟩
  · exact .of h
  · rcases h with h | h
    · rcases h with h | ⟨_, h⟩ <;> cases h
    · exact .inr h
mutual
theorem RP.dp : ∀ (d : PyData) (v : V), RP K H L d v → Dp K.K H v d
  | .none, v, h => by rw [RP] at h; subst h; exact .non
  | .bool b, v, h => by rw [RP] at h; subst h; exact .bl b
  | .int i, v, h => by rw [RP] at h; subst h; exact .int i
  | .str x, v, h => by rw [RP] at h; subst h; exact .str x
  | .list l, v, h => by
    rw [RP] at h
    obtain ⟨a, vs, rfl, h1, h2, h3⟩ := h
    exact .lst (.of h1) (RPs.dp l vs h3)
  | .tuple l, v, h => by
    rw [RP] at h
    obtain ⟨a, vs, rfl, h1, h3⟩ := h
    exact .tup (tu_sq h1) (RPs.dp l vs h3)
  | .dict _, v, h => by rw [RP] at h; exact h.elim
theorem RPs.dp : ∀ (l : List PyData) (vs : List V), RPs K H L l vs → DpAll K.K H vs l
  | [], vs, h => by rw [RPs] at h; subst h; exact .nil
  | d :: l, vs, h => by
    rw [RPs] at h
    obtain ⟨v, r, rfl, h1, h2⟩ := h
    exact .cons (RP.dp d v h1) (RPs.dp l r h2)
end
theorem lvAddr (r : Rl K m S H) {a : Addr} (h : lv K m S a) : ∃ u, H a = some u ∧ Mb u := by
  rcases h with h | ⟨n, o, e1, e2, e3⟩
  · exact (r.hid a h).2
  · have q := r.obj n a o e1 e2
    cases o with
    | lst l => obtain ⟨vs, h, _⟩ := q; exact ⟨_, h, trivial⟩
    | dic l => obtain ⟨vs, h, _⟩ := q; exact ⟨_, h, trivial⟩
    | dik l => obtain ⟨vs, h, _⟩ := q; exact ⟨_, h, trivial⟩
    | ins c l => obtain ⟨C, dx, vs, _, h, _⟩ := q; exact ⟨_, h, trivial⟩
    | fz l => cases e3
    | lck => cases e3
    | lkd l => cases e3
theorem sqT_upd {a b : Addr} {o : HO} {vs : List V} (h : H a = some (.tup vs)) (hb : H b = none ∨ ∃ u, H b = some u ∧ Mb u) : upd H b o a = some (.tup vs) := by
  have ne : a ≠ b := by
    rintro rfl
    rcases hb with q | ⟨u, q, mu⟩
    · rw [h] at q; cases q
    · rw [h] at q; cases q; exact mu
  rw [upd_ne ne]
  exact h
theorem Rl.hne (r : Rl K m S H) {a p : Addr} (h : K.h a) (hp : H p = none) : a ≠ p := by
  rintro rfl
  obtain ⟨u, e, _⟩ := (r.hid a h).2
  rw [hp] at e; cases e
theorem Nx.new (r : Rl K m S H) {p : Addr} {o : HO} (hp : H p = none) : Nx K m S H m S (upd H p o) :=
  ⟨fun a vs h => sqT_upd h (.inl hp), fun a vs h n => ⟨by rw [upd_ne (ne_of_none h hp)]; exact h, n⟩, ⟨[], by simp⟩, fun a x u h => by rw [upd_ne (ne_of_none h hp)]; exact h, fun a u h => by rw [upd_ne (ne_of_none h hp)]; exact h,
    fun a h => upd_ne (r.hne h hp), fun a u h => by rw [upd_ne (ne_of_none h hp)]; exact h⟩
end
end DL
namespace DL
open PySem PySem.Spec PyProof.Rows L2
section
variable {K : Kh} {m m' m1 m2 : List Addr} {S S' S1 S2 : Sto} {H H' H1 H2 : Hp} {a p : Addr} {n : Nat}
theorem RO.nx (x : Nx K m S H m' S' H') {o : O} (h : RO K m S H a o) (e : H' a = H a) : RO K m' S' H' a o := by
  cases o with
  | lst l => obtain ⟨vs, q, r⟩ := h; exact ⟨vs, e.trans q, r.nx x⟩
  | fz l => obtain ⟨vs, q, r⟩ := h; exact ⟨vs, e.trans q, r.nx x⟩
  | dic l => obtain ⟨ws, q, r⟩ := h; exact ⟨ws, e.trans q, r.nx x⟩
  | dik l => obtain ⟨ws, q, r⟩ := h; exact ⟨ws, e.trans q, r.nx x⟩
  | ins c l => obtain ⟨C, dx, ws, hc, q, ho, r⟩ := h; exact ⟨C, dx, ws, hc, e.trans q, x.own _ _ ho, r.nx x⟩
  | lck => obtain ⟨o, u, q⟩ := h; exact ⟨o, u, e.trans q⟩
  | lkd l => obtain ⟨o, ws, q, r⟩ := h; exact ⟨o, ws, e.trans q, r⟩
theorem RO.some {o : O} (h : RO K m S H a o) : ∃ u, H a = some u := by
  cases o with
  | lst l => obtain ⟨vs, q, _⟩ := h; exact ⟨_, q⟩
  | fz l => obtain ⟨vs, q, _⟩ := h; exact ⟨_, q⟩
  | dic l => obtain ⟨ws, q, _⟩ := h; exact ⟨_, q⟩
  | dik l => obtain ⟨ws, q, _⟩ := h; exact ⟨_, q⟩
  | ins c l => obtain ⟨C, dx, ws, _, q, _⟩ := h; exact ⟨_, q⟩
  | lck => obtain ⟨o, u, q⟩ := h; exact ⟨_, q⟩
  | lkd l => obtain ⟨o, ws, q, _⟩ := h; exact ⟨_, q⟩
theorem Rl.at (r : Rl K m S H) (em : m[n]? = some a) : ∃ o, S[n]? = some o ∧ RO K m S H a o := by
  have h := (List.getElem?_eq_some_iff.mp em).1
  have h2 : n < S.length := by rw [← r.len]; exact h
  exact ⟨S[n], List.getElem?_eq_getElem h2, r.obj n a _ em (List.getElem?_eq_getElem h2)⟩
theorem Rl.adr (r : Rl K m S H) {o : O} (es : S[n]? = some o) : ∃ a, m[n]? = some a ∧ RO K m S H a o := by
  have h := (List.getElem?_eq_some_iff.mp es).1
  have h2 : n < m.length := by rw [r.len]; exact h
  exact ⟨m[n], List.getElem?_eq_getElem h2, r.obj n _ o (List.getElem?_eq_getElem h2) es⟩
theorem Rl.in_some (r : Rl K m S H) (h : a ∈ m) : ∃ u, H a = some u := by
  obtain ⟨n, e⟩ := List.mem_iff_getElem?.mp h
  obtain ⟨o, _, q⟩ := r.at e
  exact q.some
theorem Rl.new {o : HO} (r : Rl K m S H) (hp : H p = none) : Rl K m S (upd H p o) := by
  refine ⟨r.len, r.nd, fun a h => ⟨(r.hid a h).1, by rw [upd_ne (r.hne h hp)]; exact (r.hid a h).2⟩, fun n a x em es => ?_⟩
  have q := r.obj n a x em es
  obtain ⟨u, hu⟩ := q.some
  exact q.nx (Nx.new r hp) (upd_ne (ne_of_none hu hp))
theorem nodup_ne {l : List Addr} (h : l.Nodup) {i j : Nat} {x y : Addr} (hi : l[i]? = some x) (hj : l[j]? = some y) (ne : i ≠ j) : x ≠ y := by
  rintro rfl
  obtain ⟨h1, e1⟩ := List.getElem?_eq_some_iff.mp hi
  obtain ⟨h2, e2⟩ := List.getElem?_eq_some_iff.mp hj
  exact ne ((List.getElem_inj h).mp (e1.trans e2.symm))
theorem lv_set {o o' : O} (es : S[n]? = some o) (ol : O.live o = true) (h : lv K m (S.set n o') a) : lv K m S a := by
  rcases h with h | ⟨k, x, e1, e2, e3⟩
  · exact .inl h
  · by_cases hk : n = k
    · subst hk
      exact .inr ⟨n, o, e1, es, ol⟩
    · rw [List.getElem?_set_ne hk] at e2
      exact .inr ⟨k, x, e1, e2, e3⟩
theorem RP.nxh {h' : Addr → Prop} (x : Nx K m S H m' S' H') (hs : ∀ a, h' a → K.h a ∨ H a = none) {d : PyData} {v : V} (h : RP K H (lv K m S) d v) : RP ⟨K.K, h', K.g⟩ H' (lv ⟨K.K, h', K.g⟩ m' S') d v := by
  have key := RP.mono (K := K) (H' := H') (L' := lv ⟨K.K, h', K.g⟩ m' S') x.tup (fun a vs e nl => by
    obtain ⟨e1, n1⟩ := x.lst a vs e nl
    refine ⟨e1, fun z => ?_⟩
    rcases z with z | z
    · rcases hs a z with q | q
      · exact nl (.inl q)
      · rw [e] at q; cases q
    · exact n1 (.inr z)) d v h
  exact RP.kk (K := K) (K' := ⟨K.K, h', K.g⟩) rfl _ _ key
theorem RD.nxh {h' : Addr → Prop} (x : Nx K m S H m' S' H') (hs : ∀ a, h' a → K.h a ∨ H a = none) {d : D} {v : V} (h : RD K m S H d v) : RD ⟨K.K, h', K.g⟩ m' S' H' d v := by
  cases d with
  | p d => exact RP.nxh x hs h
  | ob n => exact (RD.nx x (d := .ob n) h : RD K m' S' H' (.ob n) v)
  | scr ns => exact (RD.nx x (d := .scr ns) h : RD K m' S' H' (.scr ns) v)
  | xc a dd fs => exact (RD.nx x (d := .xc a dd fs) h : RD K m' S' H' (.xc a dd fs) v)
theorem RDs.nxh {h' : Addr → Prop} (x : Nx K m S H m' S' H') (hs : ∀ a, h' a → K.h a ∨ H a = none) {d : List D} {v : List V} (h : RDs K m S H d v) : RDs ⟨K.K, h', K.g⟩ m' S' H' d v := pairMono (fun _ _ => RD.nxh x hs) h
theorem RE.nxh {h' : Addr → Prop} (x : Nx K m S H m' S' H') (hs : ∀ a, h' a → K.h a ∨ H a = none) {ρ : Env} {σ : St} (h : RE K m S H ρ σ) : RE ⟨K.K, h', K.g⟩ m' S' H' ρ σ :=
  pairMono (fun _ _ q d e => let ⟨v, a, b⟩ := q d e; ⟨v, a, RD.nxh x hs b⟩) h
theorem RD.unh {h' : Addr → Prop} (hs : ∀ a, h' a → K.h a) {d : D} {v : V} (h : RD K m S H d v) : RD ⟨K.K, h', K.g⟩ m S H d v := by
  cases d with
  | p d =>
    refine RP.kk (K := K) (K' := ⟨K.K, h', K.g⟩) rfl _ _ (RP.mono (K := K) (L' := lv ⟨K.K, h', K.g⟩ m S) (fun _ _ q => q) (fun a vs e nl => ⟨e, fun z => nl ?_⟩) d v h)
    rcases z with z | z
    · exact .inl (hs a z)
    · exact .inr z
  | ob n => exact h
  | scr ns => exact h
  | xc a dd fs => exact h
theorem Rl.unh {h' : Addr → Prop} (hs : ∀ a, h' a → K.h a) (r : Rl K m S H) : Rl ⟨K.K, h', K.g⟩ m S H := by
  refine ⟨r.len, r.nd, fun a h => r.hid a (hs a h), fun n a o em es => ?_⟩
  have q := r.obj n a o em es
  cases o with
  | lst l => obtain ⟨vs, e, q⟩ := q; exact ⟨vs, e, pairMono (fun _ _ => RD.unh hs) q⟩
  | fz l =>
    obtain ⟨vs, e, q⟩ := q
    exact ⟨vs, e, RDs_p.mp (pairMono (fun _ _ => RD.unh hs) (RDs_p.mpr q))⟩
  | dic l => obtain ⟨vs, e, q⟩ := q; exact ⟨vs, e, pairMono (fun _ _ q => ⟨q.1, RD.unh hs q.2⟩) q⟩
  | dik l => obtain ⟨vs, e, q⟩ := q; exact ⟨vs, e, pairMono (fun _ _ q => ⟨q.1, RD.unh hs q.2⟩) q⟩
  | ins c l => obtain ⟨C, dx, vs, hc, e, ho, q⟩ := q; exact ⟨C, dx, vs, hc, e, ho, pairMono (fun _ _ q => ⟨q.1, RD.unh hs q.2⟩) q⟩
  | lck => exact q
  | lkd l => exact q
theorem Rl.hide {ho : HO} (r : Rl K m S H) (hp : H p = none) (mu : Mb ho) : Rl ⟨K.K, fun a => K.h a ∨ a = p, K.g⟩ m S (upd H p ho) := by
  have x := Nx.new (o := ho) r hp
  have hs : ∀ a, (K.h a ∨ a = p) → K.h a ∨ H a = none := fun a z => z.elim .inl fun z => .inr (by rw [z]; exact hp)
  refine ⟨r.len, r.nd, fun a h => ?_, fun n a o em es => ?_⟩
  · rcases h with h | h
    · exact ⟨(r.hid a h).1, by rw [upd_ne (r.hne h hp)]; exact (r.hid a h).2⟩
    · subst h
      exact ⟨fun z => (by
        obtain ⟨u, e⟩ := r.in_some z
        rw [hp] at e
        cases e), ho, upd_same, mu⟩
  · have q := r.obj n a o em es
    obtain ⟨u, hu⟩ := q.some
    have e : (upd H p ho) a = H a := upd_ne (ne_of_none hu hp)
    cases o with
    | lst l => obtain ⟨vs, e1, q⟩ := q; exact ⟨vs, e.trans e1, RDs.nxh x hs q⟩
    | fz l =>
      obtain ⟨vs, e1, q⟩ := q
      exact ⟨vs, e.trans e1, RDs_p.mp (RDs.nxh x hs (RDs_p.mpr q))⟩
    | dic l => obtain ⟨vs, e1, q⟩ := q; exact ⟨vs, e.trans e1, pairMono (fun _ _ q => ⟨q.1, RD.nxh x hs q.2⟩) q⟩
    | dik l => obtain ⟨vs, e1, q⟩ := q; exact ⟨vs, e.trans e1, pairMono (fun _ _ q => ⟨q.1, RD.nxh x hs q.2⟩) q⟩
    | ins c l => obtain ⟨C, dx, vs, hc, e1, h2, q⟩ := q; exact ⟨C, dx, vs, hc, e.trans e1, x.own _ _ h2, pairMono (fun _ _ q => ⟨q.1, RD.nxh x hs q.2⟩) q⟩
    | lck => obtain ⟨o, u, e1⟩ := q; exact ⟨o, u, e.trans e1⟩
    | lkd l => obtain ⟨o, ws, e1, q⟩ := q; exact ⟨o, ws, e.trans e1, q⟩
theorem hid_upd_lst {o : HO} (r : Rl K m S H) (hp : K.h p) : ∀ a vs, H a = some (.lst vs) → ¬ lv K m S a → (upd H p o) a = some (.lst vs) ∧ ¬ lv K m S a := fun a vs e nl =>
  ⟨by rw [upd_ne (fun z => nl (.inl (by rw [z]; exact hp)))]; exact e, nl⟩
theorem Rl.hidw {o : HO} (r : Rl K m S H) (hp : K.h p) (mu : Mb o) : Rl K m S (upd H p o) := by
  have ht : ∀ a vs, H a = some (.tup vs) → (upd H p o) a = some (.tup vs) := fun a vs h => sqT_upd h (.inr (r.hid p hp).2)
  have hl := hid_upd_lst (o := o) r hp
  have hd : ∀ {d : D} {v : V}, RD K m S H d v → RD K m S (upd H p o) d v := fun {d v} h => by
    cases d with
    | p d => exact RP.mono ht hl d v h
    | ob n => exact h
    | scr ns =>
      obtain ⟨a, rfl, h | h⟩ := h
      · obtain ⟨ob, h⟩ := h
        refine ⟨a, rfl, .inl ⟨ob, ?_⟩⟩
        rw [upd_ne fun z => ?_]
        · exact h
        · subst z
          obtain ⟨u, e, mu⟩ := (r.hid a hp).2
          rw [h] at e; cases e; exact mu
      · exact ⟨a, rfl, .inr h⟩
    | xc a dd fs =>
      refine ⟨h.1, fun d e => ?_⟩
      have q := h.2 d e
      rw [upd_ne fun z => ?_]
      · exact q
      · subst z
        obtain ⟨u, e2, mu⟩ := (r.hid d hp).2
        rw [q] at e2; cases e2; exact mu
  refine ⟨r.len, r.nd, fun a h => ?_, fun n a u em es => ?_⟩
  · refine ⟨(r.hid a h).1, ?_⟩
    by_cases e : a = p
    · subst e; exact ⟨o, upd_same, mu⟩
    · rw [upd_ne e]; exact (r.hid a h).2
  · have ne : a ≠ p := fun z => (r.hid p hp).1 (by rw [← z]; exact List.mem_of_getElem? em)
    have q := r.obj n a u em es
    cases u with
    | lst l => obtain ⟨vs, e1, q⟩ := q; exact ⟨vs, (upd_ne ne).trans e1, pairMono (fun _ _ => hd) q⟩
    | fz l =>
      obtain ⟨vs, e1, q⟩ := q
      exact ⟨vs, (upd_ne ne).trans e1, RPs.mono ht hl l vs q⟩
    | dic l => obtain ⟨vs, e1, q⟩ := q; exact ⟨vs, (upd_ne ne).trans e1, pairMono (fun _ _ q => ⟨q.1, hd q.2⟩) q⟩
    | dik l => obtain ⟨vs, e1, q⟩ := q; exact ⟨vs, (upd_ne ne).trans e1, pairMono (fun _ _ q => ⟨q.1, hd q.2⟩) q⟩
    | ins c l =>
      obtain ⟨C, dx, vs, hc, e1, h2, q⟩ := q
      refine ⟨C, dx, vs, hc, (upd_ne ne).trans e1, ?_, pairMono (fun _ _ q => ⟨q.1, hd q.2⟩) q⟩
      rw [upd_ne fun z => ?_]
      · exact h2
      · subst z
        obtain ⟨u, e3, mu⟩ := (r.hid _ hp).2
        rw [h2] at e3; cases e3; exact mu
    | lck => obtain ⟨o, u, e1⟩ := q; exact ⟨o, u, (upd_ne ne).trans e1⟩
    | lkd l => obtain ⟨o, ws, e1, q⟩ := q; exact ⟨o, ws, (upd_ne ne).trans e1, q⟩
theorem Nx.hidden {h' : Addr → Prop} (x : Nx K m S H m1 S1 H1) (y : Nx ⟨K.K, h', K.g⟩ m1 S1 H1 m2 S2 H2) (h1 : ∀ a, K.h a → h' a) (hs : ∀ a, h' a → K.h a ∨ H a = none) : Nx K m S H m2 S2 H2 := by
  refine ⟨fun a vs h => y.tup a vs (x.tup a vs h), fun a vs h n => ?_, ?_, fun a o u h => y.frz a o u (x.frz a o u h), fun a u h => y.xd a u (x.xd a u h), fun a h => (y.hid a (h1 a h)).trans (x.hid a h), fun a u h => y.own a u (x.own a u h)⟩
  · obtain ⟨e, nl⟩ := x.lst a vs h n
    obtain ⟨e2, n2⟩ := y.lst a vs e (fun z => by
      rcases z with z | z
      · rcases hs a z with q | q
        · exact n (.inl q)
        · rw [h] at q; cases q
      · exact nl (.inr z))
    refine ⟨e2, fun z => n2 ?_⟩
    rcases z with z | z
    · exact .inl (h1 a z)
    · exact .inr z
  · obtain ⟨t, rfl⟩ := x.ext
    obtain ⟨t2, rfl⟩ := y.ext
    exact ⟨t ++ t2, by simp⟩
theorem Nx.hidw {o : HO} (x : Nx K m S H m1 S1 H1) (hp : H p = none) (r : ∃ u, H1 p = some u ∧ Mb u) (hk : ¬ K.h p) : Nx K m S H m1 S1 (upd H1 p o) := by
  refine ⟨fun a vs h => sqT_upd (x.tup a vs h) (.inr r), fun a vs h n => ?_, x.ext, fun a u w h => ?_, fun a u h => ?_, fun a h => ?_, fun a u h => ?_⟩
  · obtain ⟨e, nl⟩ := x.lst a vs h n
    exact ⟨by rw [upd_ne (ne_of_none h hp)]; exact e, nl⟩
  · rw [upd_ne (ne_of_none h hp)]; exact x.frz a u w h
  · rw [upd_ne (ne_of_none h hp)]; exact x.xd a u h
  · rw [upd_ne (fun z => hk (by rw [← z]; exact h))]; exact x.hid a h
  · rw [upd_ne (ne_of_none h hp)]; exact x.own a u h
theorem Nx.put {o o' : O} {ho : HO} (r : Rl K m S H) (em : m[n]? = some a) (es : S[n]? = some o) (ol : O.live o = true) : Nx K m S H m (S.set n o') (upd H a ho) := by
  have ha : lv K m S a := .inr ⟨n, o, em, es, ol⟩
  have hm : a ∈ m := List.mem_of_getElem? em
  refine ⟨fun b vs h => sqT_upd h (.inr (lvAddr r ha)), fun b vs h nl => ⟨?_, fun z => nl (lv_set es ol z)⟩, ⟨[], by simp⟩, fun b x u h => ?_, fun b u h => ?_, fun b h => ?_, fun b u h => ?_⟩
  · rw [upd_ne (fun z => nl (by rw [z]; exact ha))]; exact h
  · have ne : b ≠ a := by
      rintro rfl
      obtain ⟨u', q, mu⟩ := lvAddr r ha
      rw [h] at q; cases q; exact mu
    rw [upd_ne ne]; exact h
  · have ne : b ≠ a := by
      rintro rfl
      obtain ⟨u', q, mu⟩ := lvAddr r ha
      rw [h] at q; cases q; exact mu
    rw [upd_ne ne]; exact h
  · exact upd_ne fun z => (r.hid b h).1 (by rw [z]; exact hm)
  · have ne : b ≠ a := by
      rintro rfl
      obtain ⟨u', q, mu⟩ := lvAddr r ha
      rw [h] at q; cases q; exact mu
    rw [upd_ne ne]; exact h
theorem Rl.put {o o' : O} {ho : HO} (r : Rl K m S H) (em : m[n]? = some a) (es : S[n]? = some o) (ol : O.live o = true) (ok : RO K m (S.set n o') (upd H a ho) a o') : Rl K m (S.set n o') (upd H a ho) := by
  have hm : a ∈ m := List.mem_of_getElem? em
  refine ⟨by rw [List.length_set]; exact r.len, r.nd, fun b h => ⟨(r.hid b h).1, by rw [upd_ne fun z => (r.hid b h).1 (by rw [z]; exact hm)]; exact (r.hid b h).2⟩, fun k b x ek ex => ?_⟩
  by_cases hk : n = k
  · subst hk
    rw [em] at ek; cases ek
    rw [List.getElem?_set_self (List.getElem?_eq_some_iff.mp es).1] at ex; cases ex
    exact ok
  · rw [List.getElem?_set_ne hk] at ex
    exact (r.obj k b x ek ex).nx (Nx.put r em es ol) (upd_ne (nodup_ne r.nd ek em (Ne.symm hk)))
theorem Rl.putL {l l' : List D} {vs : List V} (r : Rl K m S H) (em : m[n]? = some a) (es : S[n]? = some (.lst l)) (h : RDs K m S H l' vs) : Rl K m (S.set n (.lst l')) (upd H a (.lst vs)) :=
  r.put em es rfl ⟨vs, upd_same, h.nx (Nx.put r em es rfl)⟩
theorem lv_push {o : O} (r : Rl K m S H) (h : lv K (m ++ [p]) (S ++ [o]) a) : lv K m S a ∨ a = p := by
  rcases h with h | ⟨k, x, e1, e2, e3⟩
  · exact .inl (.inl h)
  · by_cases hk : k < m.length
    · rw [List.getElem?_append_left hk] at e1
      rw [List.getElem?_append_left (by rw [← r.len]; exact hk)] at e2
      exact .inl (.inr ⟨k, x, e1, e2, e3⟩)
    · rw [List.getElem?_append_right (Nat.le_of_not_lt hk)] at e1
      have : k - m.length = 0 := by
        have := (List.getElem?_eq_some_iff.mp e1).1
        simp at this
        omega
      rw [this] at e1
      exact .inr (Option.some.inj e1).symm
theorem Nx.push {o : O} {ho : HO} (r : Rl K m S H) (hp : H p = none) : Nx K m S H (m ++ [p]) (S ++ [o]) (upd H p ho) := by
  refine ⟨fun b vs h => sqT_upd h (.inl hp), fun b vs h nl => ⟨?_, fun z => ?_⟩, ⟨[p], rfl⟩, fun b x u h => ?_, fun b u h => ?_, fun b h => upd_ne (r.hne h hp), fun b u h => ?_⟩
  · rw [upd_ne (ne_of_none h hp)]; exact h
  · rcases lv_push r z with z | z
    · exact nl z
    · subst z; rw [h] at hp; cases hp
  · rw [upd_ne (ne_of_none h hp)]; exact h
  · rw [upd_ne (ne_of_none h hp)]; exact h
  · rw [upd_ne (ne_of_none h hp)]; exact h
theorem Rl.push {o : O} {ho : HO} (r : Rl K m S H) (hp : H p = none) (ok : RO K (m ++ [p]) (S ++ [o]) (upd H p ho) p o) : Rl K (m ++ [p]) (S ++ [o]) (upd H p ho) := by
  refine ⟨by simp [r.len], ?_, fun b h => ⟨fun z => ?_, by rw [upd_ne (r.hne h hp)]; exact (r.hid b h).2⟩, fun k b x ek ex => ?_⟩
  · rw [List.nodup_append]
    refine ⟨r.nd, by simp, fun x hx y hy => ?_⟩
    have : y = p := by simpa using hy
    subst this
    obtain ⟨u, hu⟩ := r.in_some hx
    exact ne_of_none hu hp
  · rcases List.mem_append.mp z with z | z
    · exact (r.hid b h).1 z
    · exact r.hne h hp (by simpa using z)
  · by_cases hk : k < m.length
    · rw [List.getElem?_append_left hk] at ek
      rw [List.getElem?_append_left (by rw [← r.len]; exact hk)] at ex
      have q := r.obj k b x ek ex
      obtain ⟨u, hu⟩ := q.some
      exact q.nx (Nx.push r hp) (upd_ne (ne_of_none hu hp))
    · rw [List.getElem?_append_right (Nat.le_of_not_lt hk)] at ek
      have h0 : k - m.length = 0 := by
        have := (List.getElem?_eq_some_iff.mp ek).1
        simp at this
        omega
      rw [h0] at ek
      have eb : b = p := (Option.some.inj ek).symm
      subst eb
      rw [List.getElem?_append_right (by rw [← r.len]; omega), ← r.len, h0] at ex
      have : x = o := (Option.some.inj ex).symm
      subst this
      exact ok
theorem Rl.pushL {l : List D} {vs : List V} (r : Rl K m S H) (hp : H p = none) (h : RDs K m S H l vs) : Rl K (m ++ [p]) (S ++ [.lst l]) (upd H p (.lst vs)) :=
  r.push hp ⟨vs, upd_same, h.nx (Nx.push r hp)⟩
theorem RD.push {o : O} (r : Rl K m S H) : RD K (m ++ [p]) (S ++ [o]) H' (.ob S.length) (.ref p) := by
  refine ⟨p, ?_, rfl⟩
  rw [← r.len, List.getElem?_append_right (Nat.le_refl _), Nat.sub_self]
  rfl
theorem Nx.rest {l : List PyData} {o : O} (es : S[n]? = some o) (ol : O.live o = true) : Nx K m S H m (S.set n (.fz l)) H :=
  ⟨fun _ _ h => h, fun _ _ h nl => ⟨h, fun z => nl (lv_set es ol z)⟩, ⟨[], by simp⟩, fun _ _ _ h => h, fun _ _ h => h, fun _ _ => rfl, fun _ _ h => h⟩
theorem Rl.rest {l : List PyData} (r : Rl K m S H) (es : S[n]? = some (.lst (l.map .p))) : Rl K m (S.set n (.fz l)) H := by
  refine ⟨by rw [List.length_set]; exact r.len, r.nd, r.hid, fun k b x ek ex => ?_⟩
  by_cases hk : n = k
  · subst hk
    rw [List.getElem?_set_self (List.getElem?_eq_some_iff.mp es).1] at ex; cases ex
    obtain ⟨vs, q, h⟩ := r.obj n b _ ek es
    exact ⟨vs, q, RPs.nx (Nx.rest es rfl) (RDs_p.mp h)⟩
  · rw [List.getElem?_set_ne hk] at ex
    exact (r.obj k b x ek ex).nx (Nx.rest es rfl) rfl
theorem rest_not_lv {l : List PyData} (r : Rl K m S H) (em : m[n]? = some a) (es : S[n]? = some (.lst (l.map .p))) : ¬ lv K m (S.set n (.fz l)) a := by
  rintro (h | ⟨k, x, e1, e2, e3⟩)
  · exact (r.hid a h).1 (List.mem_of_getElem? em)
  · by_cases hk : n = k
    · subst hk
      rw [List.getElem?_set_self (List.getElem?_eq_some_iff.mp es).1] at e2; cases e2
      cases e3
    · exact nodup_ne r.nd e1 em (Ne.symm hk) rfl
theorem RD.rest {l : List PyData} (r : Rl K m S H) (em : m[n]? = some a) (es : S[n]? = some (.lst (l.map .p))) : RD K m (S.set n (.fz l)) H (.lst l) (.ref a) := by
  obtain ⟨vs, q, h⟩ := r.obj n a _ em es
  show RP _ _ _ _ _
  rw [RP]
  exact ⟨a, vs, rfl, q, rest_not_lv r em es, RPs.nx (Nx.rest es rfl) (RDs_p.mp h)⟩
def ClD (k : Nat) : D → Prop
  | .ob n => n < k
  | _ => True
def ClO (k : Nat) : O → Prop
  | .lst l => ∀ d ∈ l, ClD k d
  | .dic l => ∀ d ∈ l, ClD k d.2
  | .dik l => ∀ d ∈ l, ClD k d.2
  | .ins _ l => ∀ d ∈ l, ClD k d.2
  | .fz _ => True
  | .lck => True
  | .lkd _ => True
def ClS (k : Nat) (S : Sto) : Prop := ∀ o ∈ S, ClO k o
theorem RD.cl {d : D} {v : V} (h : RD K m S H d v) : ClD m.length d := by
  cases d with
  | p _ => trivial
  | scr _ => trivial
  | xc _ _ _ => trivial
  | ob n =>
    obtain ⟨a, e, _⟩ := h
    exact (List.getElem?_eq_some_iff.mp e).1
theorem pairAll {α β : Type} {F : α → β → Prop} {P : α → Prop} (h : ∀ a b, F a b → P a) {l : List α} {r : List β} (q : Paired F l r) : ∀ a ∈ l, P a := by
  induction q with
  | nil => intro a h; cases h
  | cons x _ ih =>
    intro a ha
    rcases List.mem_cons.mp ha with rfl | ha
    · exact h _ _ x
    · exact ih a ha
theorem RO.cl {o : O} (h : RO K m S H a o) : ClO m.length o := by
  cases o with
  | lst l => obtain ⟨vs, _, r⟩ := h; exact pairAll (F := RD K m S H) (P := ClD m.length) (fun _ _ q => q.cl) r
  | dic l => obtain ⟨vs, _, r⟩ := h; exact pairAll (F := fun (p : List Key × D) (q : List Key × V) => p.1 = q.1 ∧ RD K m S H p.2 q.2) (P := fun (d : List Key × D) => ClD m.length d.2) (fun _ _ q => q.2.cl) r
  | dik l => obtain ⟨vs, _, r⟩ := h; exact pairAll (F := fun (p : Key × D) (q : Key × V) => p.1 = q.1 ∧ RD K m S H p.2 q.2) (P := fun (d : Key × D) => ClD m.length d.2) (fun _ _ q => q.2.cl) r
  | ins c l => obtain ⟨C, dx, vs, _, _, _, r⟩ := h; exact pairAll (F := fun (p : Str × D) (q : Str × V) => p.1 = q.1 ∧ RD K m S H p.2 q.2) (P := fun (d : Str × D) => ClD m.length d.2) (fun _ _ q => q.2.cl) r
  | fz l => trivial
  | lck => trivial
  | lkd l => trivial
theorem Rl.cl (r : Rl K m S H) : ClS S.length S := fun o ho => by
  obtain ⟨n, e⟩ := List.mem_iff_getElem?.mp ho
  obtain ⟨a, _, q⟩ := r.adr e
  rw [← r.len]
  exact q.cl
theorem lv_drop {k : Nat} {T : Sto} (hk : S.length = k) (h : lv K (m.take k) S a) : lv K m (S ++ T) a := by
  rcases h with h | ⟨i, x, e1, e2, e3⟩
  · exact .inl h
  · have hi : i < k := by rw [← hk]; exact (List.getElem?_eq_some_iff.mp e2).1
    rw [List.getElem?_take_of_lt hi] at e1
    exact .inr ⟨i, x, e1, by rw [List.getElem?_append_left (by rw [hk]; exact hi)]; exact e2, e3⟩
theorem RD.drop {T : Sto} {d : D} {v : V} (h : RD K m (S ++ T) H d v) (c : ClD S.length d) : RD K (m.take S.length) S H d v := by
  cases d with
  | p d => exact RP.mono (fun _ _ q => q) (fun _ _ q nl => ⟨q, fun z => nl (lv_drop rfl z)⟩) d v h
  | scr _ => exact h
  | xc _ _ _ => exact h
  | ob n =>
    obtain ⟨a, e, rfl⟩ := h
    exact ⟨a, by rw [List.getElem?_take_of_lt c]; exact e, rfl⟩
theorem pairMonoIn {α β : Type} {F G : α → β → Prop} {l : List α} {r : List β} (h : ∀ a ∈ l, ∀ b, F a b → G a b) (q : Paired F l r) : Paired G l r := by
  induction q with
  | nil => exact .nil
  | cons a _ ih => exact .cons (h _ List.mem_cons_self _ a) (ih fun x hx => h x (List.mem_cons_of_mem _ hx))
theorem Rl.drop {T : Sto} (r : Rl K m (S ++ T) H) (c : ClS S.length S) : Rl K (m.take S.length) S H := by
  have hl : S.length ≤ m.length := by rw [r.len]; simp
  refine ⟨by rw [List.length_take]; omega, r.nd.sublist (List.take_sublist _ _), fun a h => ⟨fun z => (r.hid a h).1 (List.mem_of_mem_take z), (r.hid a h).2⟩, fun n a o em es => ?_⟩
  have hn : n < S.length := (List.getElem?_eq_some_iff.mp es).1
  rw [List.getElem?_take_of_lt hn] at em
  have q := r.obj n a o em (by rw [List.getElem?_append_left hn]; exact es)
  have co := c o (List.mem_of_getElem? es)
  cases o with
  | lst l =>
    obtain ⟨vs, h1, h2⟩ := q
    exact ⟨vs, h1, pairMonoIn (fun d hd v h => RD.drop h (co d hd)) h2⟩
  | dic l =>
    obtain ⟨vs, h1, h2⟩ := q
    exact ⟨vs, h1, pairMonoIn (fun d hd v h => ⟨h.1, RD.drop h.2 (co d hd)⟩) h2⟩
  | dik l =>
    obtain ⟨vs, h1, h2⟩ := q
    exact ⟨vs, h1, pairMonoIn (fun d hd v h => ⟨h.1, RD.drop h.2 (co d hd)⟩) h2⟩
  | ins c l =>
    obtain ⟨C, dx, vs, hc, h1, ho, h2⟩ := q
    exact ⟨C, dx, vs, hc, h1, ho, pairMonoIn (fun d hd v h => ⟨h.1, RD.drop h.2 (co d hd)⟩) h2⟩
  | fz l =>
    obtain ⟨vs, h1, h2⟩ := q
    exact ⟨vs, h1, RPs.mono (fun _ _ q => q) (fun _ _ q nl => ⟨q, fun z => nl (lv_drop rfl z)⟩) l vs h2⟩
  | lck => exact q
  | lkd l => exact q
theorem Nx.drop {T : Sto} (x : Nx K m S H m' (S' ++ T) H') (r : Rl K m S H) (r' : Rl K m' (S' ++ T) H') (hl : S.length ≤ S'.length) : Nx K m S H (m'.take S'.length) S' H' := by
  refine ⟨x.tup, fun a vs h n => ?_, ?_, x.frz, x.xd, x.hid, x.own⟩
  · obtain ⟨h1, h2⟩ := x.lst a vs h n
    exact ⟨h1, fun z => h2 (lv_drop rfl z)⟩
  · obtain ⟨t, rfl⟩ := x.ext
    refine ⟨t.take (S'.length - m.length), ?_⟩
    rw [List.take_append]
    rw [List.take_of_length_le (by rw [r.len]; exact hl)]
end
end DL
namespace DL
open PySem PySem.Spec PyProof.Rows L2
structure Xc where
  c : Str
  fs : List (Str × PyData)
inductive Rs (α : Type) where
  | st
  | ok (a : α) (S : Sto)
  | ex (x : Xc) (S : Sto)
def Rs.bind {α β : Type} (r : Rs α) (f : α → Sto → Rs β) : Rs β := match r with
  | .st => .st
  | .ok a S => f a S
  | .ex x S => .ex x S
abbrev ED := Env → Sto → Rs D
abbrev AD := Env → Sto → Rs (List D)
abbrev BD := Env → Sto → Rs Bool
inductive Out where
  | st
  | nx (ρ : Env) (S : Sto)
  | bk (ρ : Env) (S : Sto)
  | ct (ρ : Env) (S : Sto)
  | rt (d : D) (S : Sto)
  | ex (x : Xc) (ρ : Env) (S : Sto)
abbrev SD := Env → Sto → Out
def liftS {α : Type} (ρ : Env) (r : Rs α) (k : α → Sto → Out) : Out := match r with
  | .st => .st
  | .ok a S => k a S
  | .ex x S => .ex x ρ S
@[simp] theorem Rs.bind_ok {α β : Type} (a : α) (S : Sto) (f : α → Sto → Rs β) : Rs.bind (.ok a S) f = f a S := rfl
@[simp] theorem liftS_ok {α : Type} (ρ : Env) (a : α) (S : Sto) (k : α → Sto → Out) : liftS ρ (.ok a S) k = k a S := rfl
def RX (mg : Str → Option Value) (K : Kh) (L : Addr → Prop) (H : Hp) (x : Xc) (c : Value) (dd : Option Addr) : Prop :=
  mg x.c = some c ∧ ((x.fs = [] ∧ dd = none) ∨ ∃ a, dd = some a ∧ x.fs ≠ [] ∧ H a = some (.xd (sVs x.fs)))
abbrev KX (X : Cx) (κ : Addr → Prop) : Kh := ⟨X.K, κ, X.mg⟩
def Post (X : Cx) (κ : Addr → Prop) (W : WX) (m : List Addr) (S : Sto) (H : Hp) (σ : St) {α β : Type} (R : List Addr → Sto → Hp → α → β → Prop) (r : Rs α) (Q : β → Hp → Prop) : Prop := match r with
  | .st => False
  | .ok d S' => ∀ v H' m', Nx (KX X κ) m S H m' S' H' → Rl (KX X κ) m' S' H' → R m' S' H' d v → Q v H'
  | .ex x S' => ∀ H' m' c dd, Nx (KX X κ) m S H m' S' H' → Rl (KX X κ) m' S' H' → RX X.mg (KX X κ) (lv (KX X κ) m' S') H' x c dd → W c dd σ H'
def PostS (X : Cx) (κ : Addr → Prop) (W : WX) (m : List Addr) (S : Sto) (H : Hp) (o : Out) (Dn : Ends) : Prop := match o with
  | .st => False
  | .nx ρ S' => ∀ σ' H' m', Nx (KX X κ) m S H m' S' H' → Rl (KX X κ) m' S' H' → RE (KX X κ) m' S' H' ρ σ' → Dn.nx σ' H'
  | .bk ρ S' => ∀ σ' H' m', Nx (KX X κ) m S H m' S' H' → Rl (KX X κ) m' S' H' → RE (KX X κ) m' S' H' ρ σ' → Dn.bk σ' H'
  | .ct ρ S' => ∀ σ' H' m', Nx (KX X κ) m S H m' S' H' → Rl (KX X κ) m' S' H' → RE (KX X κ) m' S' H' ρ σ' → Dn.ct σ' H'
  | .rt d S' => ∀ v H' m', Nx (KX X κ) m S H m' S' H' → Rl (KX X κ) m' S' H' → RD (KX X κ) m' S' H' d v → Dn.rt v H'
  | .ex x ρ S' => ∀ σ' H' m' c dd, Nx (KX X κ) m S H m' S' H' → Rl (KX X κ) m' S' H' → RE (KX X κ) m' S' H' ρ σ' → RX X.mg (KX X κ) (lv (KX X κ) m' S') H' x c dd → W c dd σ' H'
def Imp (X : Cx) (W : WX) {α β : Type} (R : Kh → List Addr → Sto → Hp → α → β → Prop) (t : St → Hp → (β → Hp → Prop) → Prop) (f : Env → Sto → Rs α) : Prop :=
  ∀ κ ρ S σ H m Q, Rl (KX X κ) m S H → RE (KX X κ) m S H ρ σ → Post X κ W m S H σ (R (KX X κ)) (f ρ S) Q → t σ H Q
def ImpS (X : Cx) (W : WX) (t : TS) (f : SD) : Prop :=
  ∀ κ ρ S σ H m Dn, Rl (KX X κ) m S H → RE (KX X κ) m S H ρ σ → PostS X κ W m S H (f ρ S) Dn → t Dn σ H
abbrev RB : Kh → List Addr → Sto → Hp → Bool → Bool → Prop := fun _ _ _ _ a b => a = b
structure DE (X : Cx) (W : WX) (e : Expr) (f : ED) : Prop where
  ex : ∃ t : TE, PE X e t ∧ Imp X W RD t f
structure DA (X : Cx) (W : WX) (es : List Expr) (f : AD) : Prop where
  ex : ∃ t : TA, PA X es t ∧ Imp X W RDs t f
structure DT (X : Cx) (W : WX) (e : Expr) (f : BD) : Prop where
  ex : ∃ t : TT, PT X e t ∧ Imp X W RB t f
structure DW (X : Cx) (W : WX) (e : Expr) (f : BD) : Prop where
  ex : ∃ t : TT, PW X e t ∧ Imp X W RB t f
structure DS (X : Cx) (W : WX) (st : Stmt) (f : SD) : Prop where
  ex : ∃ t : TS, PS X st t ∧ ImpS X W t f
structure DSs (X : Cx) (W : WX) (st : List Stmt) (f : SD) : Prop where
  ex : ∃ t : TS, PSs X st t ∧ ImpS X W t f
section
variable {X : Cx} {W : WX} {m m1 : List Addr} {S S1 : Sto} {H H1 : Hp} {σ : St} {α α' β β' : Type} {ρ : Env}
theorem Post.nx {R : List Addr → Sto → Hp → α → β → Prop} {r : Rs α} {Q : β → Hp → Prop} (x : Nx (KX X κ) m S H m1 S1 H1) (h : Post X κ W m S H σ R r Q) : Post X κ W m1 S1 H1 σ R r Q := by
  cases r with
  | st => exact h
  | ok d S' => exact fun v H' m' y rl r => h v H' m' (x.trans y) rl r
  | ex e S' => exact fun H' m' c dd y rl r => h H' m' c dd (x.trans y) rl r
theorem PostS.nx {o : Out} {Dn : Ends} (x : Nx (KX X κ) m S H m1 S1 H1) (h : PostS X κ W m S H o Dn) : PostS X κ W m1 S1 H1 o Dn := by
  cases o with
  | st => exact h
  | nx ρ S' => exact fun σ' H' m' y => h σ' H' m' (x.trans y)
  | bk ρ S' => exact fun σ' H' m' y => h σ' H' m' (x.trans y)
  | ct ρ S' => exact fun σ' H' m' y => h σ' H' m' (x.trans y)
  | rt ρ S' => exact fun σ' H' m' y => h σ' H' m' (x.trans y)
  | ex e ρ S' => exact fun σ' H' m' c dd y => h σ' H' m' c dd (x.trans y)
theorem Imp.seq {Ra : Kh → List Addr → Sto → Hp → α → β → Prop} {Rb : List Addr → Sto → Hp → α' → β' → Prop} {ta : St → Hp → (β → Hp → Prop) → Prop} {fa : Env → Sto → Rs α} {k : α → Sto → Rs α'} {Q : β' → Hp → Prop} {C : β → Hp → Prop}
    (ha : Imp X W Ra ta fa) (rl : Rl (KX X κ) m S H) (re : RE (KX X κ) m S H ρ σ) (h : Post X κ W m S H σ Rb ((fa ρ S).bind k) Q)
    (hk : ∀ d S1 v H1 m1, Nx (KX X κ) m S H m1 S1 H1 → Rl (KX X κ) m1 S1 H1 → RE (KX X κ) m1 S1 H1 ρ σ → Ra (KX X κ) m1 S1 H1 d v → Post X κ W m1 S1 H1 σ Rb (k d S1) Q → C v H1) : ta σ H C := by
  refine ha κ ρ S σ H m C rl re ?_
  cases e : fa ρ S with
  | st => rw [e] at h; exact h
  | ok d S1 =>
    rw [e] at h
    exact fun v H1 m1 x rl1 r1 => hk d S1 v H1 m1 x rl1 (re.nx x) r1 (Post.nx x h)
  | ex y S1 =>
    rw [e] at h
    exact h
theorem Imp.seqS {Ra : Kh → List Addr → Sto → Hp → α → β → Prop} {ta : St → Hp → (β → Hp → Prop) → Prop} {fa : Env → Sto → Rs α} {k : α → Sto → Out} {Dn : Ends} {C : β → Hp → Prop}
    (ha : Imp X W Ra ta fa) (rl : Rl (KX X κ) m S H) (re : RE (KX X κ) m S H ρ σ) (h : PostS X κ W m S H (liftS ρ (fa ρ S) k) Dn)
    (hk : ∀ d S1 v H1 m1, Nx (KX X κ) m S H m1 S1 H1 → Rl (KX X κ) m1 S1 H1 → RE (KX X κ) m1 S1 H1 ρ σ → Ra (KX X κ) m1 S1 H1 d v → PostS X κ W m1 S1 H1 (k d S1) Dn → C v H1) : ta σ H C := by
  refine ha κ ρ S σ H m C rl re ?_
  cases e : fa ρ S with
  | st => rw [e] at h; exact h
  | ok d S1 =>
    rw [e] at h
    exact fun v H1 m1 x rl1 r1 => hk d S1 v H1 m1 x rl1 (re.nx x) r1 (PostS.nx x h)
  | ex y S1 =>
    rw [e] at h
    exact fun H' m' c dd x rl1 r1 => h σ H' m' c dd x rl1 (re.nx x) r1
theorem Post.ok' {R : List Addr → Sto → Hp → α → β → Prop} {a : α} {Q : β → Hp → Prop} (h : Post X κ W m S H σ R (.ok a S1) Q) {v : β} {H' : Hp} {m' : List Addr} (x : Nx (KX X κ) m S H m' S1 H') (r : Rl (KX X κ) m' S1 H') (q : R m' S1 H' a v) : Q v H' := h v H' m' x r q
def eVar (i : Nat) : ED := fun ρ S => match ρ[i]? with
  | some (some d) => .ok d S
  | _ => .st
def eC (d : PyData) : ED := fun _ S => .ok (.p d) S
theorem de_var {i : Nat} {x : Str} {pos : Pos} (hN : X.N[i]? = some x) (hv : Vis X.env.scope x) (hd : (x == ("__debug__" : Str)) = false := by decide) (hcd : (x == ("__classdict__" : Str)) = false := by decide) : DE X W (.Name x pos) (eVar i) := by
  refine ⟨tVar i, pe_var hN hv hd hcd, fun κ ρ S σ H m Q rl re h => ?_⟩
  unfold eVar at h
  split at h
  · rename_i d e
    obtain ⟨v, e1, q⟩ := pairGet re e
    obtain ⟨u, rfl, r⟩ := q d rfl
    exact ⟨u, e1, h.ok' .refl rl r⟩
  · exact h.elim
theorem de_int {i : Int} {j : Nat} {pos : Pos} : DE X W (.Constant (.int i) j pos) (eC (.int i)) :=
  ⟨_, pe_int, fun κ ρ S σ H m Q rl re h => h.ok' .refl rl (by show RP _ _ _ _ _; rw [RP])⟩
theorem de_bl {b : Bool} {j : Nat} {pos : Pos} : DE X W (.Constant (.bool b) j pos) (eC (.bool b)) :=
  ⟨_, pe_bl, fun κ ρ S σ H m Q rl re h => h.ok' .refl rl (by show RP _ _ _ _ _; rw [RP])⟩
theorem de_str {x : Str} {j : Nat} {pos : Pos} : DE X W (.Constant (.str x) j pos) (eC (.str x)) :=
  ⟨_, pe_str, fun κ ρ S σ H m Q rl re h => h.ok' .refl rl (by show RP _ _ _ _ _; rw [RP])⟩
theorem RD.int {i : Int} {v : V} (h : RD (KX X κ) m S H (.int i) v) : v = .int i := by
  have h : RP _ _ _ _ _ := h
  rw [RP] at h; exact h
theorem RD.bl {i : Bool} {v : V} (h : RD (KX X κ) m S H (.bl i) v) : v = .bl i := by
  have h : RP _ _ _ _ _ := h
  rw [RP] at h; exact h
theorem RD.str {i : Str} {v : V} (h : RD (KX X κ) m S H (.str i) v) : v = .str i := by
  have h : RP _ _ _ _ _ := h
  rw [RP] at h; exact h
theorem RD.non {v : V} (h : RD (KX X κ) m S H .non v) : v = .non := by
  have h : RP _ _ _ _ _ := h
  rw [RP] at h; exact h
theorem RD.int_ {i : Int} : RD (KX X κ) m S H (.int i) (.int i) := by show RP _ _ _ _ _; rw [RP]
theorem RD.bl_ {i : Bool} : RD (KX X κ) m S H (.bl i) (.bl i) := by show RP _ _ _ _ _; rw [RP]
theorem RD.str_ {i : Str} : RD (KX X κ) m S H (.str i) (.str i) := by show RP _ _ _ _ _; rw [RP]
theorem RD.non_ : RD (KX X κ) m S H .non .non := by show RP _ _ _ _ _; rw [RP]
theorem RD.tup {l : List PyData} {v : V} (h : RD (KX X κ) m S H (.tup l) v) : ∃ a vs, v = .ref a ∧ SqT X.K H a vs ∧ RDs (KX X κ) m S H (l.map .p) vs := by
  have h : RP _ _ _ _ _ := h
  rw [RP] at h
  obtain ⟨a, vs, e, h1, h2⟩ := h
  exact ⟨a, vs, e, tu_sq h1, RDs_p.mpr h2⟩
theorem RD.lst {l : List PyData} {v : V} (h : RD (KX X κ) m S H (.lst l) v) : ∃ a vs, v = .ref a ∧ H a = some (.lst vs) ∧ RDs (KX X κ) m S H (l.map .p) vs := by
  have h : RP _ _ _ _ _ := h
  rw [RP] at h
  obtain ⟨a, vs, e, h1, _, h2⟩ := h
  exact ⟨a, vs, e, h1, RDs_p.mpr h2⟩
def pAll : List D → Option (List PyData)
  | [] => some []
  | .p d :: l => (pAll l).map (d :: ·)
  | _ :: _ => none
theorem pAll_map : ∀ l : List PyData, pAll (l.map .p) = some l
  | [] => rfl
  | d :: l => by simp [pAll, pAll_map l]
theorem pAll_some : ∀ {l : List D} {r : List PyData}, pAll l = some r → l = r.map .p
  | [], r, h => by simp [pAll] at h; subst h; rfl
  | .p d :: l, r, h => by
    simp only [pAll, Option.map_eq_some_iff] at h
    obtain ⟨r', h1, rfl⟩ := h
    rw [pAll_some h1]
    rfl
  | .ob _ :: _, r, h => by simp [pAll] at h
  | .scr _ :: _, r, h => by simp [pAll] at h
  | .xc _ _ _ :: _, r, h => by simp [pAll] at h
def lItems (S : Sto) : D → Option (List D)
  | .p (.list l) => some (l.map .p)
  | .ob n => match S[n]? with
    | some (.lst l) => some l
    | some (.fz l) => some (l.map .p)
    | _ => none
  | .scr ns => some (ns.map .int)
  | _ => none
theorem RDs_ints : ∀ ns : List Int, RDs (KX X κ) m S H (ns.map D.int) (ns.map V.int)
  | [] => .nil
  | i :: ns => .cons RD.int_ (RDs_ints ns)
theorem RD.items {d : D} {v : V} {l : List D} (r : Rl (KX X κ) m S H) (h : RD (KX X κ) m S H d v) (e : lItems S d = some l) : ∃ a vs, v = .ref a ∧ SqL X.K H a vs ∧ RDs (KX X κ) m S H l vs := by
  unfold lItems at e
  split at e
  · cases e
    obtain ⟨a, vs, rfl, h1, h2⟩ := h.lst
    exact ⟨a, vs, rfl, .of h1, h2⟩
  · rename_i n
    obtain ⟨a, em, rfl⟩ := h
    obtain ⟨o, es, ro⟩ := r.at em
    split at e
    · rename_i q
      rw [q] at es; cases es; cases e
      obtain ⟨vs, h1, h2⟩ := ro
      exact ⟨a, vs, rfl, .of h1, h2⟩
    · rename_i q
      rw [q] at es; cases es; cases e
      obtain ⟨vs, h1, h2⟩ := ro
      exact ⟨a, vs, rfl, .of h1, RDs_p.mpr h2⟩
    · cases e
  · rename_i ns
    cases e
    obtain ⟨a, rfl, h⟩ := h
    refine ⟨a, ns.map V.int, rfl, ?_, RDs_ints ns⟩
    rcases h with ⟨o, h⟩ | h
    · exact .inl (.inr ⟨o, h⟩)
    · rcases h with h | h
      · rcases h with h | ⟨_, h⟩ <;> cases h
      · exact .inr h
  · cases e
end
end DL
namespace DL
open PySem PySem.Spec PyProof.Rows L2
section
variable {X : Cx} {W : WX} {m m1 : List Addr} {S S1 : Sto} {H H1 : Hp} {σ : St} {ρ : Env} {κ : Addr → Prop}
theorem not_lv (r : Rl (KX X κ) m S H) {p : Addr} (hp : H p = none) : ¬ lv (KX X κ) m S p := fun z => by
  obtain ⟨u, q, _⟩ := lvAddr r z
  rw [hp] at q; cases q
theorem newL (r : Rl (KX X κ) m S H) {p : Addr} (hp : H p = none) {l : List PyData} {vs : List V} (h : RPs (KX X κ) H (lv (KX X κ) m S) l vs) : RD (KX X κ) m S (upd H p (.lst vs)) (.lst l) (.ref p) := by
  show RP _ _ _ _ _
  rw [RP]
  exact ⟨p, vs, rfl, upd_same, not_lv r hp, RPs.nx (Nx.new r hp) h⟩
theorem newT (r : Rl (KX X κ) m S H) {p : Addr} (hp : H p = none) {l : List PyData} {vs : List V} (h : RPs (KX X κ) H (lv (KX X κ) m S) l vs) : RD (KX X κ) m S (upd H p (.tup vs)) (.tup l) (.ref p) := by
  show RP _ _ _ _ _
  rw [RP]
  exact ⟨p, vs, rfl, .inl upd_same, RPs.nx (Nx.new r hp) h⟩
theorem RDs_all {ds : List D} {l : List PyData} {vs : List V} (h : RDs (KX X κ) m S H ds vs) (e : pAll ds = some l) : RPs (KX X κ) H (lv (KX X κ) m S) l vs := by
  rw [pAll_some e] at h
  exact RDs_p.mp h
theorem RPs_app {l l' : List PyData} {vs vs' : List V} {L : Addr → Prop} (h : RPs (KX X κ) H L l vs) (h' : RPs (KX X κ) H L l' vs') : RPs (KX X κ) H L (l ++ l') (vs ++ vs') :=
  RPs_iff.mpr (pairApp (RPs_iff.mp h) (RPs_iff.mp h'))
theorem RPs_len {l : List PyData} {vs : List V} {L : Addr → Prop} (h : RPs (KX X κ) H L l vs) : l.length = vs.length := pairLen (RPs_iff.mp h)
def vList (S : Sto) : D → Option (List PyData)
  | .p (.list l) => some l
  | .ob n => match S[n]? with
    | some (.lst l) => pAll l
    | some (.fz l) => some l
    | _ => none
  | _ => none
theorem RD.vlist {d : D} {v : V} {l : List PyData} (r : Rl (KX X κ) m S H) (h : RD (KX X κ) m S H d v) (e : vList S d = some l) : ∃ a vs, v = .ref a ∧ H a = some (.lst vs) ∧ RPs (KX X κ) H (lv (KX X κ) m S) l vs := by
  unfold vList at e
  split at e
  · cases e
    obtain ⟨a, vs, rfl, h1, h2⟩ := h.lst
    exact ⟨a, vs, rfl, h1, RDs_p.mp h2⟩
  · rename_i n
    obtain ⟨a, em, rfl⟩ := h
    obtain ⟨o, es, ro⟩ := r.at em
    split at e
    · rename_i q
      rw [q] at es; cases es
      obtain ⟨vs, h1, h2⟩ := ro
      exact ⟨a, vs, rfl, h1, RDs_all h2 e⟩
    · rename_i q
      rw [q] at es; cases es; cases e
      obtain ⟨vs, h1, h2⟩ := ro
      exact ⟨a, vs, rfl, h1, h2⟩
    · cases e
  · cases e
def OpD (X : Cx) (W : WX) (f : Value → Value → Sem Value) (g : D → D → Sto → Rs D) : Prop :=
  ∃ r : R2, OpR X f r ∧ ∀ κ x y vx vy m S H σ Q, Rl (KX X κ) m S H → RD (KX X κ) m S H x vx → RD (KX X κ) m S H y vy → Post X κ W m S H σ (RD (KX X κ)) (g x y S) Q → r vx vy H Q
def eBin (g : D → D → Sto → Rs D) (fa fb : ED) : ED := fun ρ S => (fa ρ S).bind fun x S1 => (fb ρ S1).bind fun y S2 => g x y S2
theorem imp_bin {g : D → D → Sto → Rs D} {r : R2} {ta tb : TE} {fa fb : ED} (hr : ∀ κ x y vx vy m S H σ Q, Rl (KX X κ) m S H → RD (KX X κ) m S H x vx → RD (KX X κ) m S H y vy → Post X κ W m S H σ (RD (KX X κ)) (g x y S) Q → r vx vy H Q)
    (ha : Imp X W RD ta fa) (hb : Imp X W RD tb fb) : Imp X W RD (tOp r ta tb) (eBin g fa fb) := by
  intro κ ρ S σ H m Q rl re h
  refine ha.seq rl re h fun d S1 v H1 m1 x1 rl1 re1 r1 h1 => ?_
  refine hb.seq rl1 re1 h1 fun d2 S2 v2 H2 m2 x2 rl2 re2 r2 h2 => ?_
  exact hr κ d d2 v v2 m2 S2 H2 σ Q rl2 (r1.nx x2) r2 h2
theorem de_bin {op : Operator} {a b : Expr} {pos : Pos} {g : D → D → Sto → Rs D} {fa fb : ED} (ho : OpD X W (binaryOp op) g) (ha : DE X W a fa) (hb : DE X W b fb) : DE X W (.BinOp a op b pos) (eBin g fa fb) := by
  obtain ⟨r, o, hr⟩ := ho
  obtain ⟨ta, pa, ia⟩ := ha
  obtain ⟨tb, pb, ib⟩ := hb
  exact ⟨_, pe_op o pa pb, imp_bin hr ia ib⟩
def gAdd : D → D → Sto → Rs D := fun x y S => match x, y with
  | .p (.int i), .p (.int j) => .ok (.int (i + j)) S
  | .p (.str a), .p (.str b) => if a.length + b.length ≤ sizeLine then .ok (.str (a ++ b)) S else .st
  | .p (.tuple a), .p (.tuple b) => if a.length + b.length ≤ sizeLine then .ok (.tup (a ++ b)) S else .st
  | x, y => match vList S x, vList S y with
    | some a, some b => if a.length + b.length ≤ sizeLine then .ok (.lst (a ++ b)) S else .st
    | _, _ => .st
theorem RD.tup' {l : List PyData} {v : V} (h : RD (KX X κ) m S H (.tup l) v) : ∃ a vs, v = .ref a ∧ (H a = some (.tup vs) ∨ (bT l = true ∧ SqT X.K (fun _ => none) a vs)) ∧ RPs (KX X κ) H (lv (KX X κ) m S) l vs := by
  have h : RP _ _ _ _ _ := h
  rw [RP] at h
  exact h
theorem RPs_nil {l : List PyData} {vs : List V} {L : Addr → Prop} (h : RPs (KX X κ) H L l vs) : vs = [] ↔ l = [] := by
  have := RPs_len h
  constructor
  · rintro rfl; exact List.length_eq_zero_iff.mp this
  · rintro rfl; exact List.length_eq_zero_iff.mp this.symm
theorem tup_of {l : List PyData} {a : Addr} {vs : List V} (h : H a = some (.tup vs) ∨ (bT l = true ∧ SqT X.K (fun _ => none) a vs)) (h2 : RPs (KX X κ) H (lv (KX X κ) m S) l vs) : RD (KX X κ) m S H (.tup l) (.ref a) := by
  show RP _ _ _ _ _
  rw [RP]
  exact ⟨a, vs, rfl, h, h2⟩
theorem od_add : OpD X W (binaryOp .Add) gAdd := by
  refine ⟨_, OpR.or op_add (OpR.or op_add_str (OpR.or op_catA op_cat)), fun κ x y vx vy m S H σ Q rl rx ry h => ?_⟩
  unfold gAdd at h
  split at h
  · exact .inl ⟨_, _, rx.int, ry.int, h.ok' .refl rl RD.int_⟩
  · split at h
    · rename_i hl
      exact .inr (.inl ⟨_, _, rx.str, ry.str, hl, h.ok' .refl rl RD.str_⟩)
    · exact h.elim
  · rename_i a b
    split at h
    · rename_i hl
      obtain ⟨p, xs, rfl, hx, rx⟩ := rx.tup'
      obtain ⟨q, ys, rfl, hy, ry⟩ := ry.tup'
      refine .inr (.inr (.inl ⟨p, q, xs, ys, rfl, rfl, tu_sq hx, tu_sq hy, by rw [← RPs_len rx, ← RPs_len ry]; exact hl, fun e => ?_, fun e1 e2 => ?_, fun _ _ z hz => ?_⟩))
      · have : a = [] := (RPs_nil rx).mp e
        subst this
        exact h.ok' .refl rl (tup_of hy ry)
      · have : b = [] := (RPs_nil ry).mp e2
        subst this
        rw [List.append_nil] at h
        exact h.ok' .refl rl (tup_of hx rx)
      · exact h.ok' (.new rl hz) (rl.new hz) (newT rl hz (RPs_app rx ry))
    · exact h.elim
  · split at h
    · rename_i a b ea eb
      split at h
      · rename_i hl
        obtain ⟨p, xs, rfl, hx, rx⟩ := rx.vlist rl ea
        obtain ⟨q, ys, rfl, hy, ry⟩ := ry.vlist rl eb
        exact .inr (.inr (.inr ⟨p, q, xs, ys, rfl, rfl, hx, hy, by rw [← RPs_len rx, ← RPs_len ry]; exact hl, fun z hz => h.ok' (.new rl hz) (rl.new hz) (newL rl hz (RPs_app rx ry))⟩))
      · exact h.elim
    · exact h.elim
def gInt (C : Int → Int → Bool) (f : Int → Int → Int) : D → D → Sto → Rs D := fun x y S => match x, y with
  | .p (.int i), .p (.int j) => if C i j = true then .ok (.int (f i j)) S else .st
  | _, _ => .st
theorem od_int {op : Value → Value → Sem Value} {C : Int → Int → Prop} {f : Int → Int → Int} {c : Int → Int → Bool} (h : OpR X op (rI C fun i j => .int (f i j))) (hc : ∀ i j, c i j = true → C i j) : OpD X W op (gInt c f) := by
  refine ⟨_, h, fun κ x y vx vy m S H σ Q rl rx ry h => ?_⟩
  unfold gInt at h
  split at h
  · split at h
    · rename_i e
      exact ⟨_, _, rx.int, ry.int, hc _ _ e, h.ok' .refl rl RD.int_⟩
    · exact h.elim
  · exact h.elim
def gSub : D → D → Sto → Rs D := gInt (fun _ _ => true) fun i j => i - j
def gMul : D → D → Sto → Rs D := gInt (fun i j => decide (i.natAbs < 2 ^ 64) || decide (j.natAbs < 2 ^ 64)) fun i j => i * j
def gMod : D → D → Sto → Rs D := gInt (fun _ j => decide (0 < j)) fun i j => i % j
def gFdv : D → D → Sto → Rs D := gInt (fun _ j => decide (0 < j ∧ j < 1073741824)) fun i j => i / j
def gPow : D → D → Sto → Rs D := gInt (fun i j => decide (0 ≤ j ∧ j ≤ 1000000 ∧ i.natAbs < 2 ^ 64)) fun i j => i ^ j.toNat
theorem od_sub : OpD X W (binaryOp .Sub) gSub := by
  refine ⟨_, op_sub, fun κ x y vx vy m S H σ Q rl rx ry h => ?_⟩
  unfold gSub gInt at h
  split at h
  · rw [if_pos rfl] at h
    exact ⟨_, _, rx.int, ry.int, h.ok' .refl rl RD.int_⟩
  · exact h.elim
theorem od_mul : OpD X W (binaryOp .Mult) gMul := od_int op_mul fun i j h => by
  simp only [Bool.or_eq_true, decide_eq_true_eq] at h
  rcases h with h | h
  · exact .inl ⟨by omega, by omega⟩
  · exact .inr ⟨by omega, by omega⟩
theorem od_mod : OpD X W (binaryOp .Mod) gMod := od_int op_mod fun i j h => of_decide_eq_true h
theorem od_fdv : OpD X W (binaryOp .FloorDiv) gFdv := od_int op_fdiv fun i j h => (of_decide_eq_true h : 0 < j ∧ j < 1073741824)
theorem od_pow : OpD X W (binaryOp .Pow) gPow := od_int op_pow fun i j h => (of_decide_eq_true h : 0 ≤ j ∧ j ≤ 1000000 ∧ i.natAbs < 2 ^ 64)
def eNeg (fa : ED) : ED := fun ρ S => (fa ρ S).bind fun x S1 => match x with
  | .p (.int i) => .ok (.int (-i)) S1
  | _ => .st
theorem de_neg {a : Expr} {pos : Pos} {fa : ED} (ha : DE X W a fa) : DE X W (.UnaryOp .USub a pos) (eNeg fa) := by
  obtain ⟨ta, pa, ia⟩ := ha
  refine ⟨_, pe_un un_neg pa, fun κ ρ S σ H m Q rl re h => ?_⟩
  refine ia.seq rl re h fun d S1 v H1 m1 x1 rl1 re1 r1 h1 => ?_
  split at h1
  · exact ⟨_, r1.int, h1.ok' .refl rl1 RD.int_⟩
  · exact h1.elim
def scalD : PyData → PyData → Bool
  | .none, .none => true | .none, .int _ => true | .int _, .none => true | .none, .bool _ => true | .bool _, .none => true | .none, .str _ => true | .str _, .none => true
  | .int _, .int _ => true | .bool _, .bool _ => true | .str _, .str _ => true
  | .int _, .str _ => true | .str _, .int _ => true | .bool _, .str _ => true | .str _, .bool _ => true
  | _, _ => false
def pNow (S : Sto) : D → Option PyData
  | .p d => some d
  | x => (vList S x).map .list
theorem RD.now {d : D} {v : V} {p : PyData} (r : Rl (KX X κ) m S H) (h : RD (KX X κ) m S H d v) (e : pNow S d = some p) : Dp X.K H v p := by
  unfold pNow at e
  split at e
  · cases e; exact RP.dp _ _ h
  · simp only [Option.map_eq_some_iff] at e
    obtain ⟨l, e, rfl⟩ := e
    obtain ⟨a, vs, rfl, h1, h2⟩ := h.vlist r e
    exact .lst (.of h1) (RPs.dp _ _ h2)
def gEq (neg : Bool) : D → D → Sto → Rs D := fun x y S => match pNow S x, pNow S y with
  | some a, some b => if scalD a b = true then .ok (.bl (neg ^^ PyData.eqv a b)) S else
      if SeqAt.shaped a = true ∧ SeqAt.shaped b = true then .ok (.bl (neg ^^ PyData.eqv a b)) S else .st
  | _, _ => .st
theorem scal_now {a b : PyData} {va vb : V} (ha : Dp X.K H va a) (hb : Dp X.K H vb b) (h : scalD a b = true) : scal va vb = true ∧ decide (va = vb) = PyData.eqv a b := by
  cases ha <;> cases hb <;> first
    | (exact absurd (show false = true from h) Bool.false_ne_true)
    | (refine ⟨rfl, ?_⟩; simp [PyData.eqv, Bool.beq_eq_decide_eq]; done)
    | (refine ⟨rfl, ?_⟩; simp only [PyData.eqv]; rw [Bool.eq_iff_iff]; simp)
theorem od_eq (hu : X.A.units + 64 < cLine) : OpD X W (compareOp .Eq) (gEq false) := by
  refine ⟨_, OpR.or op_eq (op_eqD hu), fun κ x y vx vy m S H σ Q rl rx ry h => ?_⟩
  unfold gEq at h
  split at h
  · rename_i a b ea eb
    have da := rx.now rl ea
    have db := ry.now rl eb
    split at h
    · rename_i e
      obtain ⟨h1, h2⟩ := scal_now da db e
      exact .inl ⟨h1, by rw [h2]; exact h.ok' .refl rl (by rw [Bool.false_xor]; exact RD.bl_)⟩
    · split at h
      · rename_i e
        exact .inr ⟨a, b, da, db, e.1, e.2, h.ok' .refl rl (by rw [Bool.false_xor]; exact RD.bl_)⟩
      · exact h.elim
  · exact h.elim
theorem od_ne (hu : X.A.units + 64 < cLine) : OpD X W (compareOp .NotEq) (gEq true) := by
  refine ⟨_, OpR.or op_ne (op_neD hu), fun κ x y vx vy m S H σ Q rl rx ry h => ?_⟩
  unfold gEq at h
  split at h
  · rename_i a b ea eb
    have da := rx.now rl ea
    have db := ry.now rl eb
    split at h
    · rename_i e
      obtain ⟨h1, h2⟩ := scal_now da db e
      exact .inl ⟨h1, by rw [h2]; exact h.ok' .refl rl (by rw [Bool.true_xor]; exact RD.bl_)⟩
    · split at h
      · rename_i e
        exact .inr ⟨a, b, da, db, e.1, e.2, h.ok' .refl rl (by rw [Bool.true_xor]; exact RD.bl_)⟩
      · exact h.elim
  · exact h.elim
def gOrd0 (f : Int → Int → Bool) : D → D → Sto → Rs D := fun x y S => match x, y with
  | .p (.int i), .p (.int j) => .ok (.bl (f i j)) S
  | _, _ => .st
theorem od_ord0 {op : Value → Value → Sem Value} {f : Int → Int → Bool} (h : OpR X op (rI0 fun i j => .bl (f i j))) : OpD X W op (gOrd0 f) := by
  refine ⟨_, h, fun κ x y vx vy m S H σ Q rl rx ry h => ?_⟩
  unfold gOrd0 at h
  split at h
  · exact ⟨_, _, rx.int, ry.int, h.ok' .refl rl RD.bl_⟩
  · exact h.elim
def gLt := gOrd0 fun i j => decide (i < j)
def gLe := gOrd0 fun i j => decide (i ≤ j)
def gGt := gOrd0 fun i j => decide (j < i)
def gGe := gOrd0 fun i j => decide (j ≤ i)
theorem od_lt : OpD X W (compareOp .Lt) gLt := od_ord0 op_lt
theorem od_gt : OpD X W (compareOp .Gt) gGt := od_ord0 op_gt
theorem od_ge : OpD X W (compareOp .GtE) gGe := od_ord0 op_ge
def isNoneD : PyData → Bool
  | .none => true
  | _ => false
def gIsN (neg : Bool) : D → D → Sto → Rs D := fun x y S => match x, y with
  | .p a, .p .none => .ok (.bl (neg ^^ isNoneD a)) S
  | _, _ => .st
theorem de_cmp {op : CmpOp} {a b : Expr} {pos : Pos} {g : D → D → Sto → Rs D} {fa fb : ED} (ho : OpD X W (compareOp op) g) (ha : DE X W a fa) (hb : DE X W b fb) (hm : behindInMarks op b = false) : DE X W (.Compare a [op] [b] pos) (eBin g fa fb) := by
  obtain ⟨r, o, hr⟩ := ho
  obtain ⟨ta, pa, ia⟩ := ha
  obtain ⟨tb, pb, ib⟩ := hb
  exact ⟨_, pe_cmpR o pa pb hm, imp_bin hr ia ib⟩
def asB (f : ED) : BD := fun ρ S => (f ρ S).bind fun x S1 => match x with
  | .p (.bool b) => .ok b S1
  | _ => .st
theorem imp_asB {t : TE} {f : ED} (h : Imp X W RD t f) : Imp X W RB (fun σ H (Q : Bool → Hp → Prop) => t σ H fun x H1 => ∃ k, x = .bl k ∧ Q k H1) (asB f) := by
  intro κ ρ S σ H m Q rl re hh
  refine h.seq rl re hh fun d S1 v H1 m1 x1 rl1 re1 r1 h1 => ?_
  split at h1
  · exact ⟨_, r1.bl, h1.ok' .refl rl1 rfl⟩
  · exact h1.elim
theorem dt_cmp {op : CmpOp} {a b : Expr} {pos : Pos} {g : D → D → Sto → Rs D} {fa fb : ED} (ho : OpD X W (compareOp op) g) (ha : DE X W a fa) (hb : DE X W b fb) (hm : behindInMarks op b = false) : DT X W (.Compare a [op] [b] pos) (asB (eBin g fa fb)) := by
  obtain ⟨r, o, hr⟩ := ho
  obtain ⟨ta, pa, ia⟩ := ha
  obtain ⟨tb, pb, ib⟩ := hb
  exact ⟨_, pt_cmpR o pa pb hm, imp_asB (imp_bin hr ia ib)⟩
def eChain (g g' : D → D → Sto → Rs D) (fa fb fc : ED) : ED := fun ρ S => (fa ρ S).bind fun x S1 => (fb ρ S1).bind fun y S2 => (g x y S2).bind fun z S3 => match z with
  | .p (.bool true) => (fc ρ S3).bind fun w S4 => g' y w S4
  | .p (.bool false) => .ok (.bl false) S3
  | _ => .st
end
end DL
namespace DL
open PySem PySem.Spec PyProof.Rows L2
section
variable {X : Cx} {W : WX} {m m1 : List Addr} {S S1 : Sto} {H H1 : Hp} {σ : St} {ρ : Env} {κ : Addr → Prop}
variable {a b c : Expr} {pos : Pos} {fa fb fc : ED} {ba bb : BD} {rest : List Expr}
def bAnd (f g : BD) : BD := fun ρ S => (f ρ S).bind fun x S1 => if x = true then g ρ S1 else .ok false S1
def bOr (f g : BD) : BD := fun ρ S => (f ρ S).bind fun x S1 => if x = true then .ok true S1 else g ρ S1
def bNot (f : BD) : BD := fun ρ S => (f ρ S).bind fun x S1 => .ok (!x) S1
theorem DW.pt (h : DW X W a ba) : DT X W a ba := by
  obtain ⟨t, p, i⟩ := h
  exact ⟨t, p.pt, i⟩
theorem dw_and1 (ha : DT X W a ba) : DW X W (.BoolOp .And [a] pos) ba := by
  obtain ⟨t, p, i⟩ := ha
  exact ⟨t, pw_and1 p, i⟩
theorem dw_or1 (ha : DT X W a ba) : DW X W (.BoolOp .Or [a] pos) ba := by
  obtain ⟨t, p, i⟩ := ha
  exact ⟨t, pw_or1 p, i⟩
theorem dw_and (ha : DT X W a ba) (hb : DW X W (.BoolOp .And (b :: rest) pos) bb) : DW X W (.BoolOp .And (a :: b :: rest) pos) (bAnd ba bb) := by
  obtain ⟨ta, pa, ia⟩ := ha
  obtain ⟨tb, pb, ib⟩ := hb
  refine ⟨_, pw_and pa pb, fun κ ρ S σ H m Q rl re h => ?_⟩
  refine ia.seq rl re h fun d S1 v H1 m1 x1 rl1 re1 r1 h1 => ?_
  have r1 : d = v := r1
  subst r1
  cases d with
  | true => exact ib κ ρ S1 σ H1 m1 Q rl1 re1 h1
  | false => exact h1.ok' .refl rl1 rfl
theorem dw_or (ha : DT X W a ba) (hb : DW X W (.BoolOp .Or (b :: rest) pos) bb) : DW X W (.BoolOp .Or (a :: b :: rest) pos) (bOr ba bb) := by
  obtain ⟨ta, pa, ia⟩ := ha
  obtain ⟨tb, pb, ib⟩ := hb
  refine ⟨_, pw_or pa pb, fun κ ρ S σ H m Q rl re h => ?_⟩
  refine ia.seq rl re h fun d S1 v H1 m1 x1 rl1 re1 r1 h1 => ?_
  have r1 : d = v := r1
  subst r1
  cases d with
  | false => exact ib κ ρ S1 σ H1 m1 Q rl1 re1 h1
  | true => exact h1.ok' .refl rl1 rfl
theorem dt_not (ha : DT X W a ba) : DT X W (.UnaryOp .Not a pos) (bNot ba) := by
  obtain ⟨ta, pa, ia⟩ := ha
  refine ⟨_, pt_not pa, fun κ ρ S σ H m Q rl re h => ?_⟩
  refine ia.seq rl re h fun d S1 v H1 m1 x1 rl1 re1 r1 h1 => ?_
  have r1 : d = v := r1
  subst r1
  exact h1.ok' .refl rl1 rfl
def truD (S : Sto) : D → Option Bool
  | .p .none => some false
  | .p (.bool b) => some b
  | .p (.int i) => some (i != 0)
  | .p (.str x) => if x.length ≤ sizeLine then some (((x.length : Nat) : Int) != 0) else none
  | .p (.tuple l) => some (!l.isEmpty)
  | d => (lItems S d).map fun l => !l.isEmpty
def bTru (f : ED) : BD := fun ρ S => (f ρ S).bind fun x S1 => match truD S1 x with
  | some b => .ok b S1
  | none => .st
theorem pairEmpty {α β : Type} {F : α → β → Prop} {l : List α} {r : List β} (q : Paired F l r) : (!l.isEmpty) = (!r.isEmpty) := by
  cases q <;> rfl
theorem mapEmpty {α β : Type} (f : α → β) (l : List α) : (l.map f).isEmpty = l.isEmpty := by cases l <;> rfl
theorem tru_of {d : D} {v : V} {k : Bool} (rl : Rl (KX X κ) m S H) (h : RD (KX X κ) m S H d v) (e : truD S d = some k) : TruV X.K v H k := by
  unfold truD at e
  split at e
  · cases e; rw [h.non]; rfl
  · cases e; rw [h.bl]; rfl
  · cases e; rw [h.int]; rfl
  · split at e
    · rename_i hl
      cases e; rw [h.str]; exact ⟨hl, rfl⟩
    · cases e
  · rename_i l
    cases e
    obtain ⟨p, vs, rfl, h1, h2⟩ := h.tup
    have := pairEmpty h2
    rw [mapEmpty] at this
    exact .inr (.inl ⟨vs, h1, this⟩)
  · simp only [Option.map_eq_some_iff] at e
    obtain ⟨l, e, rfl⟩ := e
    obtain ⟨p, vs, rfl, h1, h2⟩ := h.items rl e
    exact .inl ⟨vs, h1, pairEmpty h2⟩
theorem dt_truth (ha : DE X W a fa) (he : ∀ whole, isTrue a X.env whole = (do let v ← whole; standAt a.pos; holding [v] (truthy v)) := by intro _; rfl) : DT X W a (bTru fa) := by
  obtain ⟨ta, pa, ia⟩ := ha
  refine ⟨_, pt_truth pa he, fun κ ρ S σ H m Q rl re h => ?_⟩
  refine ia.seq rl re h fun d S1 v H1 m1 x1 rl1 re1 r1 h1 => ?_
  split at h1
  · rename_i k e
    exact ⟨k, tru_of rl1 r1 e, h1.ok' .refl rl1 rfl⟩
  · exact h1.elim
def eAnd (f g : ED) : ED := fun ρ S => (f ρ S).bind fun x S1 => match x with
  | .p (.bool true) => g ρ S1
  | .p (.bool false) => .ok (.bl false) S1
  | _ => .st
def eOr (f g : ED) : ED := fun ρ S => (f ρ S).bind fun x S1 => match x with
  | .p (.bool false) => g ρ S1
  | .p (.bool true) => .ok (.bl true) S1
  | _ => .st
def eNot (f : ED) : ED := fun ρ S => (f ρ S).bind fun x S1 => match x with
  | .p (.bool b) => .ok (.bl (!b)) S1
  | _ => .st
theorem de_one {op} (ha : DE X W a fa) : DE X W (.BoolOp op [a] pos) fa := by
  obtain ⟨t, p, i⟩ := ha
  exact ⟨t, pe_one p, i⟩
theorem de_and (ha : DE X W a fa) (hb : DE X W (.BoolOp .And (b :: rest) pos) fb) : DE X W (.BoolOp .And (a :: b :: rest) pos) (eAnd fa fb) := by
  obtain ⟨ta, pa, ia⟩ := ha
  obtain ⟨tb, pb, ib⟩ := hb
  refine ⟨_, pe_and pa pb, fun κ ρ S σ H m Q rl re h => ?_⟩
  refine ia.seq rl re h fun d S1 v H1 m1 x1 rl1 re1 r1 h1 => ?_
  split at h1
  · exact ⟨true, r1.bl, ib κ ρ S1 σ H1 m1 Q rl1 re1 h1⟩
  · exact ⟨false, r1.bl, h1.ok' .refl rl1 RD.bl_⟩
  · exact h1.elim
theorem de_or (ha : DE X W a fa) (hb : DE X W (.BoolOp .Or (b :: rest) pos) fb) : DE X W (.BoolOp .Or (a :: b :: rest) pos) (eOr fa fb) := by
  obtain ⟨ta, pa, ia⟩ := ha
  obtain ⟨tb, pb, ib⟩ := hb
  refine ⟨_, pe_or pa pb, fun κ ρ S σ H m Q rl re h => ?_⟩
  refine ia.seq rl re h fun d S1 v H1 m1 x1 rl1 re1 r1 h1 => ?_
  split at h1
  · exact ⟨false, r1.bl, ib κ ρ S1 σ H1 m1 Q rl1 re1 h1⟩
  · exact ⟨true, r1.bl, h1.ok' .refl rl1 RD.bl_⟩
  · exact h1.elim
theorem de_not (ha : DE X W a fa) : DE X W (.UnaryOp .Not a pos) (eNot fa) := by
  obtain ⟨ta, pa, ia⟩ := ha
  refine ⟨_, pe_not pa, fun κ ρ S σ H m Q rl re h => ?_⟩
  refine ia.seq rl re h fun d S1 v H1 m1 x1 rl1 re1 r1 h1 => ?_
  split at h1
  · exact ⟨_, r1.bl, h1.ok' .refl rl1 RD.bl_⟩
  · exact h1.elim
def eIf (c : BD) (f g : ED) : ED := fun ρ S => (c ρ S).bind fun x S1 => if x = true then f ρ S1 else g ρ S1
variable {es : List Expr} {ga : AD}
def aNil : AD := fun _ S => .ok [] S
def aCons (f : ED) (g : AD) : AD := fun ρ S => (f ρ S).bind fun x S1 => (g ρ S1).bind fun xs S2 => .ok (x :: xs) S2
theorem da_nil : DA X W [] aNil := ⟨_, pa_nil, fun κ ρ S σ H m Q rl re h => h.ok' .refl rl .nil⟩
theorem da_cons (ha : DE X W a fa) (hb : DA X W es ga) (hs : starEach (a :: es) X.env = (false, eval a X.env) :: starEach es X.env := by rfl) : DA X W (a :: es) (aCons fa ga) := by
  obtain ⟨ta, pa, ia⟩ := ha
  obtain ⟨tb, pb, ib⟩ := hb
  refine ⟨_, pa_cons pa pb hs, fun κ ρ S σ H m Q rl re h => ?_⟩
  refine ia.seq rl re h fun d S1 v H1 m1 x1 rl1 re1 r1 h1 => ?_
  refine ib.seq rl1 re1 h1 fun d2 S2 v2 H2 m2 x2 rl2 re2 r2 h2 => ?_
  exact h2.ok' .refl rl2 (.cons (r1.nx x2) r2)
def restD : D → Sto → Option (PyData × Sto)
  | .p d, S => some (d, S)
  | .ob n, S => match S[n]? with
    | some (.lst l) => (pAll l).map fun l' => (.list l', S.set n (.fz l'))
    | some (.fz l) => some (.list l, S)
    | _ => none
  | _, _ => none
theorem RD.restD {d : D} {v : V} {d' : PyData} {S' : Sto} (rl : Rl (KX X κ) m S H) (h : RD (KX X κ) m S H d v) (e : restD d S = some (d', S')) : Rl (KX X κ) m S' H ∧ Nx (KX X κ) m S H m S' H ∧ RD (KX X κ) m S' H (.p d') v := by
  unfold DL.restD at e
  split at e
  · cases e; exact ⟨rl, .refl, h⟩
  · rename_i n
    obtain ⟨a, em, rfl⟩ := h
    split at e
    · rename_i l es
      simp only [Option.map_eq_some_iff] at e
      obtain ⟨l', el, e⟩ := e
      cases e
      have := pAll_some el
      subst this
      exact ⟨rl.rest es, Nx.rest es rfl, RD.rest rl em es⟩
    · rename_i l es
      cases e
      refine ⟨rl, .refl, ?_⟩
      obtain ⟨vs, q, h⟩ := rl.obj n a _ em es
      show RP _ _ _ _ _
      rw [RP]
      refine ⟨a, vs, rfl, q, ?_, h⟩
      rintro (h | ⟨k, x, e1, e2, e3⟩)
      · exact (rl.hid a h).1 (List.mem_of_getElem? em)
      · by_cases hk : n = k
        · subst hk
          rw [es] at e2; cases e2; cases e3
        · exact nodup_ne rl.nd e1 em (Ne.symm hk) rfl
    · cases e
  · cases e
def restAll : List D → Sto → Option (List PyData × Sto)
  | [], S => some ([], S)
  | d :: l, S => match restD d S with
    | some (d', S') => (restAll l S').map fun r => (d' :: r.1, r.2)
    | none => none
theorem RDs.restAll : ∀ {ds : List D} {vs : List V} {l : List PyData} {S S' : Sto}, Rl (KX X κ) m S H → RDs (KX X κ) m S H ds vs → restAll ds S = some (l, S') → Rl (KX X κ) m S' H ∧ Nx (KX X κ) m S H m S' H ∧ RPs (KX X κ) H (lv (KX X κ) m S') l vs
  | [], vs, l, S, S', rl, h, e => by
    cases h
    cases e
    exact ⟨rl, .refl, by rw [RPs]⟩
  | d :: ds, vs, l, S, S', rl, h, e => by
    cases h with
    | cons h1 h2 =>
      unfold DL.restAll at e
      split at e
      · rename_i d' S1 e1
        simp only [Option.map_eq_some_iff] at e
        obtain ⟨⟨l', S2⟩, e2, e⟩ := e
        cases e
        obtain ⟨rl1, x1, r1⟩ := h1.restD rl e1
        obtain ⟨rl2, x2, r2⟩ := RDs.restAll rl1 (RDs.nx x1 h2) e2
        refine ⟨rl2, x1.trans x2, ?_⟩
        rw [RPs]
        exact ⟨_, _, rfl, RP.nx x2 r1, r2⟩
      · cases e
def eTup (f : AD) : ED := fun ρ S => (f ρ S).bind fun ds S1 => match restAll ds S1 with
  | some (l, S2) => if l.length ≤ sizeLine then .ok (.tup l) S2 else .st
  | none => .st
def eLst (f : AD) : ED := fun ρ S => (f ρ S).bind fun ds S1 => match restAll ds S1 with
  | some (l, S2) => if l.length ≤ sizeLine then .ok (.lst l) S2 else .st
  | none => .st
def eLstO (f : AD) : ED := fun ρ S => (f ρ S).bind fun ds S1 => if ds.length ≤ sizeLine then .ok (.ob S1.length) (S1 ++ [.lst ds]) else .st
theorem de_tup {x1 : Nat} (ha : DA X W es ga) : DE X W (.Tuple es x1 pos) (eTup ga) := by
  obtain ⟨t, p, i⟩ := ha
  refine ⟨_, pe_tup p, fun κ ρ S σ H m Q rl re h => ?_⟩
  refine i.seq rl re h fun d S1 v H1 m1 x1 rl1 re1 r1 h1 => ?_
  split at h1
  · rename_i l S2 e
    split at h1
    · rename_i hl
      obtain ⟨rl2, x2, r2⟩ := RDs.restAll rl1 r1 e
      exact ⟨by rw [← RPs_len r2]; exact hl, fun z hz => h1.ok' (x2.trans (.new rl2 hz)) (rl2.new hz) (newT rl2 hz r2)⟩
    · exact h1.elim
  · exact h1.elim
theorem de_lst (ha : DA X W es ga) : DE X W (.List es pos) (eLst ga) := by
  obtain ⟨t, p, i⟩ := ha
  refine ⟨_, pe_lst p, fun κ ρ S σ H m Q rl re h => ?_⟩
  refine i.seq rl re h fun d S1 v H1 m1 x1 rl1 re1 r1 h1 => ?_
  split at h1
  · rename_i l S2 e
    split at h1
    · rename_i hl
      obtain ⟨rl2, x2, r2⟩ := RDs.restAll rl1 r1 e
      exact ⟨by rw [← RPs_len r2]; exact hl, fun z hz => h1.ok' (x2.trans (.new rl2 hz)) (rl2.new hz) (newL rl2 hz r2)⟩
    · exact h1.elim
  · exact h1.elim
theorem de_lstO (ha : DA X W es ga) : DE X W (.List es pos) (eLstO ga) := by
  obtain ⟨t, p, i⟩ := ha
  refine ⟨_, pe_lst p, fun κ ρ S σ H m Q rl re h => ?_⟩
  refine i.seq rl re h fun d S1 v H1 m1 x1 rl1 re1 r1 h1 => ?_
  split at h1
  · rename_i hl
    exact ⟨by rw [← pairLen r1]; exact hl, fun z hz => h1.ok' (.push rl1 hz) (rl1.pushL hz r1) (RD.push rl1)⟩
  · exact h1.elim
def gIx : D → D → Sto → Rs D := fun x y S => match y with
  | .p (.int i) => (match x with
    | .p (.tuple l) => (match atI l i with | some d => .ok (.p d) S | none => .st)
    | .p (.str z) => if z.length ≤ sizeLine then (match atI z.cps.toList i with | some c => .ok (.str ⟨#[c]⟩) S | none => .st) else .st
    | x => (match lItems S x with | some l => (match atI l i with | some d => .ok d S | none => .st) | none => .st))
  | _ => .st
theorem atI_pair {α β : Type} {F : α → β → Prop} {l : List α} {r : List β} (q : Paired F l r) {i : Int} {x : α} (e : atI l i = some x) : ∃ y, atI r i = some y ∧ F x y := by
  unfold atI at e ⊢
  rw [← pairLen q]
  cases h : ixN l.length i with
  | none => rw [h] at e; cases e
  | some j =>
    rw [h] at e
    exact pairGet q e
theorem atI_map {α β : Type} (f : α → β) (l : List α) (i : Int) : atI (l.map f) i = (atI l i).map f := by
  unfold atI
  rw [List.length_map]
  cases ixN l.length i <;> simp
theorem de_ix (ha : DE X W a fa) (hb : DE X W b fb) (hs : PlainIx b) : DE X W (.Subscript a b pos) (eBin gIx fa fb) := by
  obtain ⟨ta, pa, ia⟩ := ha
  obtain ⟨tb, pb, ib⟩ := hb
  refine ⟨_, pe_ix ix_seq pa pb hs, imp_bin (fun κ x y vx vy m S H σ Q rl rx ry h => ?_) ia ib⟩
  unfold gIx at h
  split at h
  · rename_i i
    split at h
    · rename_i l
      split at h
      · rename_i d e
        obtain ⟨p, vs, rfl, h1, h2⟩ := rx.tup
        have e' : atI (l.map D.p) i = some (.p d) := by rw [atI_map, e]; rfl
        obtain ⟨y, e2, r⟩ := atI_pair h2 e'
        exact .inr (.inl ⟨p, vs, i, y, rfl, ry.int, h1, e2, h.ok' .refl rl r⟩)
      · exact h.elim
    · rename_i z
      split at h
      · rename_i hl
        split at h
        · rename_i c e
          exact .inr (.inr ⟨z, i, c, rx.str, ry.int, hl, e, h.ok' .refl rl RD.str_⟩)
        · exact h.elim
      · exact h.elim
    · split at h
      · rename_i l el
        split at h
        · rename_i d e
          obtain ⟨p, vs, rfl, h1, h2⟩ := rx.items rl el
          obtain ⟨y, e2, r⟩ := atI_pair h2 e
          exact .inl ⟨p, vs, i, y, rfl, ry.int, h1, e2, h.ok' .refl rl r⟩
        · exact h.elim
      · exact h.elim
  · exact h.elim
structure DO (X : Cx) (W : WX) (e : Option Expr) (f : Env → Sto → Rs (Option Int)) : Prop where
  ex : ∃ t : TO, PO X e t ∧ Imp X W (fun _ _ _ _ (a b : Option Int) => a = b) t f
def oNone : Env → Sto → Rs (Option Int) := fun _ S => .ok none S
def oSome (f : ED) : Env → Sto → Rs (Option Int) := fun ρ S => (f ρ S).bind fun x S1 => match x with
  | .p (.int i) => .ok (some i) S1
  | _ => .st
theorem do_none : DO X W none oNone := ⟨_, po_none, fun κ ρ S σ H m Q rl re h => h.ok' .refl rl rfl⟩
theorem do_some (ha : DE X W a fa) : DO X W (some a) (oSome fa) := by
  obtain ⟨ta, pa, ia⟩ := ha
  refine ⟨_, po_some pa, fun κ ρ S σ H m Q rl re h => ?_⟩
  refine ia.seq rl re h fun d S1 v H1 m1 x1 rl1 re1 r1 h1 => ?_
  split at h1
  · exact ⟨_, r1.int, h1.ok' .refl rl1 rfl⟩
  · exact h1.elim
def cutL {α : Type} (xs : List α) (lo hi : Option Int) : List α := (xs.drop (HT.sIx xs.length 0 lo)).take (HT.sIx xs.length xs.length hi - HT.sIx xs.length 0 lo)
def gSl : D → Option Int → Option Int → Sto → Rs D := fun x lo hi S => match x with
  | .p (.tuple l) => .ok (.tup (cutL l lo hi)) S
  | .p (.str z) => if z.length ≤ sizeLine then .ok (.str (cutS z lo hi)) S else .st
  | x => match vList S x with
    | some l => .ok (.lst (cutL l lo hi)) S
    | none => .st
def eSl (fa : ED) (fl fh : Env → Sto → Rs (Option Int)) : ED := fun ρ S => (fa ρ S).bind fun x S1 => (fl ρ S1).bind fun lo S2 => (fh ρ S2).bind fun hi S3 => gSl x lo hi S3
theorem cut_pair {α : Type} {F : α → V → Prop} {l : List α} {r : List V} (q : Paired F l r) (lo hi : Option Int) : Paired F (cutL l lo hi) (cutV r lo hi) := by
  unfold cutL cutV
  rw [← pairLen q]
  exact pairTake (pairDrop q _) _
theorem cut_all {α : Type} {l : List α} {lo hi : Option Int} (h1 : HT.sIx l.length 0 lo = 0) (h2 : HT.sIx l.length l.length hi = l.length) : cutL l lo hi = l := by
  unfold cutL
  rw [h1, h2]
  simp
theorem de_sl {lo hi : Option Expr} {p2 : Pos} {fl fh} (ha : DE X W a fa) (hl : DO X W lo fl) (hh : DO X W hi fh) : DE X W (.Subscript a (.Slice lo hi none p2) pos) (eSl fa fl fh) := by
  obtain ⟨ta, pa, ia⟩ := ha
  obtain ⟨tl, pl, il⟩ := hl
  obtain ⟨th, ph, ih⟩ := hh
  refine ⟨_, pe_slice (SlR.or sl_list (SlR.or sl_tupA sl_str)) pa pl ph, fun κ ρ S σ H m Q rl re h => ?_⟩
  refine ia.seq rl re h fun d S1 v H1 m1 x1 rl1 re1 r1 h1 => ?_
  refine il.seq rl1 re1 h1 fun lo' S2 lo2 H2 m2 x2 rl2 re2 e1 h2 => ?_
  have e1 : lo' = lo2 := e1
  subst e1
  refine ih.seq rl2 re2 h2 fun hi' S3 hi2 H3 m3 x3 rl3 re3 e2 h3 => ?_
  have e2 : hi' = hi2 := e2
  subst e2
  have r3 := (r1.nx x2).nx x3
  unfold gSl at h3
  split at h3
  · rename_i l
    obtain ⟨p, vs, rfl, q1, q2⟩ := r3.tup'
    have q2' := RPs_iff.mp q2
    refine .inr (.inl ⟨p, vs, rfl, tu_sq q1, fun z => ?_, fun _ y hy => ?_⟩)
    · rw [← RPs_len q2] at z
      rw [cut_all z.1 z.2] at h3
      exact h3.ok' .refl rl3 (tup_of q1 q2)
    · exact h3.ok' (.new rl3 hy) (rl3.new hy) (newT rl3 hy (RPs_iff.mpr (cut_pair q2' _ _)))
  · split at h3
    · rename_i z hl
      exact .inr (.inr ⟨z, r3.str, hl, h3.ok' .refl rl3 RD.str_⟩)
    · exact h3.elim
  · split at h3
    · rename_i l e
      obtain ⟨p, vs, rfl, q1, q2⟩ := r3.vlist rl3 e
      exact .inl ⟨p, vs, rfl, .of q1, fun y hy => h3.ok' (.new rl3 hy) (rl3.new hy) (newL rl3 hy (RPs_iff.mpr (cut_pair (RPs_iff.mp q2) _ _)))⟩
    · exact h3.elim
end
end DL
namespace DL
open PySem PySem.Spec PyProof.Rows L2
section
variable {X : Cx} {W : WX} {m m1 : List Addr} {S S1 : Sto} {H H1 : Hp} {σ : St} {ρ : Env} {κ : Addr → Prop}
variable {a b c e : Expr} {pos : Pos} {fa fb fe : ED} {ba : BD} {s1 : Stmt} {ss ss' : List Stmt} {f1 f2 : SD}
def sSeq (f g : SD) : SD := fun ρ S => match f ρ S with
  | .nx ρ1 S1 => g ρ1 S1
  | o => o
def sNil : SD := fun ρ S => .nx ρ S
theorem dss_nil : DSs X W [] sNil := ⟨_, pss_nil, fun κ ρ S σ H m Dn rl re h => h σ H m .refl rl re⟩
theorem dss_cons (h1 : DS X W s1 f1) (h2 : DSs X W ss f2) : DSs X W (s1 :: ss) (sSeq f1 f2) := by
  obtain ⟨t1, p1, i1⟩ := h1
  obtain ⟨t2, p2, i2⟩ := h2
  refine ⟨_, pss_cons p1 p2, fun κ ρ S σ H m Dn rl re h => ?_⟩
  refine i1 κ ρ S σ H m _ rl re ?_
  unfold sSeq at h
  split at h
  · rename_i ρ1 S1 e
    rw [e]
    exact fun σ' H' m' x rl' re' => i2 κ ρ1 S1 σ' H' m' Dn rl' re' (PostS.nx x h)
  · rename_i hn
    cases e : f1 ρ S with
    | nx ρ1 S1 => exact absurd e (hn ρ1 S1)
    | st => rw [e] at h; exact h
    | bk ρ1 S1 => rw [e] at h; exact h
    | ct ρ1 S1 => rw [e] at h; exact h
    | rt d S1 => rw [e] at h; exact h
    | ex x ρ1 S1 => rw [e] at h; exact h
theorem dss_one (h1 : DS X W s1 f1) : DSs X W [s1] f1 := by
  obtain ⟨t1, p1, i1⟩ := h1
  exact ⟨_, pss_one p1, i1⟩
def sBrk : SD := fun ρ S => .bk ρ S
def sCnt : SD := fun ρ S => .ct ρ S
def sExpr (f : ED) : SD := fun ρ S => liftS ρ (f ρ S) fun _ S1 => .nx ρ S1
theorem ds_expr (he : DE X W e fe) (hs : swapsWith e none pos.line X.env = pure false := by rfl) : DS X W (.Expr e pos) (sExpr fe) := by
  obtain ⟨t, p, i⟩ := he
  refine ⟨_, ps_expr p hs, fun κ ρ S σ H m Dn rl re h => ?_⟩
  exact i.seqS rl re h fun d S1 v H1 m1 x1 rl1 re1 r1 h1 => h1 σ H1 m1 .refl rl1 re1
def sRetR (f : ED) : SD := fun ρ S => liftS ρ (f ρ S) fun d S1 => match restD d S1 with
  | some (p, S2) => .rt (.p p) S2
  | none => .st
def sRetN : SD := fun _ S => .rt .non S
theorem ds_retR (he : DE X W e fe) : DS X W (.Return (some e) pos) (sRetR fe) := by
  obtain ⟨t, p, i⟩ := he
  refine ⟨_, ps_ret p, fun κ ρ S σ H m Dn rl re h => ?_⟩
  refine i.seqS rl re h fun d S1 v H1 m1 x1 rl1 re1 r1 h1 => ?_
  split at h1
  · rename_i q S2 e
    obtain ⟨rl2, x2, r2⟩ := r1.restD rl1 e
    exact h1 v H1 m1 x2 rl2 r2
  · exact h1.elim
def sIf (c : BD) (f g : SD) : SD := fun ρ S => liftS ρ (c ρ S) fun b S1 => if b = true then f ρ S1 else g ρ S1
theorem ds_if (hc : DT X W c ba) (h1 : DSs X W ss f1) (h2 : DSs X W ss' f2) : DS X W (.If c ss ss' pos) (sIf ba f1 f2) := by
  obtain ⟨tc, pc, ic⟩ := hc
  obtain ⟨t1, p1, i1⟩ := h1
  obtain ⟨t2, p2, i2⟩ := h2
  refine ⟨_, ps_if pc p1 p2, fun κ ρ S σ H m Dn rl re h => ?_⟩
  refine ic.seqS rl re h fun d S1 v H1 m1 x1 rl1 re1 r1 h1 => ?_
  have r1 : d = v := r1
  subst r1
  cases d with
  | true => exact i1 κ ρ S1 σ H1 m1 Dn rl1 re1 h1
  | false => exact i2 κ ρ S1 σ H1 m1 Dn rl1 re1 h1
def PostG (X : Cx) (κ : Addr → Prop) (m : List Addr) (S : Sto) (H : Hp) (r : Rs Env) (Q : St → Hp → Prop) : Prop := match r with
  | .ok ρ S' => ∀ σ' H' m', Nx (KX X κ) m S H m' S' H' → Rl (KX X κ) m' S' H' → RE (KX X κ) m' S' H' ρ σ' → Q σ' H'
  | _ => False
abbrev GD := D → Env → Sto → Rs Env
structure DG (X : Cx) (W : WX) (tg : Expr) (g : GD) : Prop where
  ex : ∃ t : TG, PG X tg t ∧ ∀ κ d v ρ S σ H m Q, Rl (KX X κ) m S H → RE (KX X κ) m S H ρ σ → RD (KX X κ) m S H d v → PostG X κ m S H (g d ρ S) Q → t v σ H Q
abbrev GDs := List D → Env → Sto → Rs Env
structure DGs (X : Cx) (W : WX) (tgs : List Expr) (g : GDs) : Prop where
  ex : ∃ t : TGs, PGs X tgs t ∧ ∀ κ ds vs ρ S σ H m Q, Rl (KX X κ) m S H → RE (KX X κ) m S H ρ σ → RDs (KX X κ) m S H ds vs → PostG X κ m S H (g ds ρ S) Q → t vs σ H Q
theorem PostG.nx {r : Rs Env} {Q : St → Hp → Prop} (x : Nx (KX X κ) m S H m1 S1 H1) (h : PostG X κ m S H r Q) : PostG X κ m1 S1 H1 r Q := by
  cases r with
  | st => exact h
  | ok d S' => exact fun v H' m' y rl r => h v H' m' (x.trans y) rl r
  | ex e S' => exact h
def gNm (i : Nat) : GD := fun d ρ S => .ok (ρ.set i (some d)) S
theorem dg_name {i : Nat} {x : Str} (hN : X.N.Nodup) (hi : X.N[i]? = some x) (hx : Loc X.env.scope x) (hf : X.fn x = true ∨ X.env.scope.names.lookup x = some .local := by first | exact .inl rfl | exact .inr rfl | assumption) : DG X W (.Name x pos) (gNm i) :=
  ⟨_, pg_name hN hi hx hf, fun κ d v ρ S σ H m Q rl re r h => h _ H m .refl rl (pairSet re fun d' e => ⟨v, rfl, by cases e; exact r⟩)⟩
def gsNil : GDs := fun ds ρ S => match ds with
  | [] => .ok ρ S
  | _ => .st
def gsCons (g : GD) (h : GDs) : GDs := fun ds ρ S => match ds with
  | d :: ds => (match g d ρ S with | .ok ρ1 S1 => h ds ρ1 S1 | _ => .st)
  | _ => .st
theorem dgs_nil : DGs X W [] gsNil := by
  refine ⟨_, pgs_nil, fun κ ds vs ρ S σ H m Q rl re r h => ?_⟩
  cases r with
  | nil => exact ⟨rfl, h σ H m .refl rl re⟩
  | cons _ _ => exact h.elim
theorem dgs_cons {es : List Expr} {g : GD} {gs : GDs} (h1 : DG X W e g) (h2 : DGs X W es gs) (hs : (assignEach (e :: es) X.env).map (·.2) = assign e X.env :: (assignEach es X.env).map (·.2) := by rfl) : DGs X W (e :: es) (gsCons g gs) := by
  obtain ⟨t1, p1, i1⟩ := h1
  obtain ⟨t2, p2, i2⟩ := h2
  refine ⟨_, pgs_cons p1 p2 hs, fun κ ds vs ρ S σ H m Q rl re r h => ?_⟩
  cases r with
  | nil => exact h.elim
  | cons q1 q2 =>
    rename_i d v ds vs
    refine ⟨v, vs, rfl, i1 κ d v ρ S σ H m _ rl re q1 ?_⟩
    unfold gsCons at h
    cases e1 : g d ρ S with
    | st => simp only [e1] at h; exact h.elim
    | ex _ _ => simp only [e1] at h; exact h.elim
    | ok ρ1 S1 =>
      simp only [e1] at h
      exact fun σ' H' m' x rl' re' => i2 κ ds vs ρ1 S1 σ' H' m' Q rl' re' (RDs.nx x q2) (PostG.nx x h)
def gTupD (n : Nat) (gs : GDs) : GD := fun d ρ S => match d with
  | .p (.tuple l) => if l.length = n then gs (l.map .p) ρ S else .st
  | _ => .st
theorem dg_tup {es : List Expr} {k n : Nat} {gs : GDs} (hc : X.calm = true) (h : DGs X W es gs) (hn : (assignEach es X.env).length = n := by rfl) (hst : (assignEach es X.env).findIdx? (·.1) = none := by rfl) : DG X W (.Tuple es k pos) (gTupD n gs) := by
  obtain ⟨t, p, i⟩ := h
  refine ⟨_, pg_tup hc p hn hst, fun κ d v ρ S σ H m Q rl re r h => ?_⟩
  unfold gTupD at h
  split at h
  · split at h
    · rename_i l hl
      obtain ⟨q, vs, rfl, h1, h2⟩ := r.tup
      exact ⟨q, vs, rfl, h1, by rw [← pairLen h2, List.length_map]; exact hl, i κ _ vs ρ S σ H m Q rl re h2 h⟩
    · exact h.elim
  · exact h.elim
def setL (d : D) (o i : D) (S : Sto) : Option Sto := match o with
  | .ob n => (match i with
    | .p (.int i) => (match S[n]? with
      | some (.lst l) => (match ixN l.length i with
        | some j => some (S.set n (.lst (l.set j d)))
        | none => none)
      | _ => none)
    | _ => none)
  | _ => none
def okE (ρ : Env) (o : Option Sto) : Rs Env := match o with
  | some S => .ok ρ S
  | none => .st
def gSetL (fo fi : ED) : GD := fun d ρ S => (fo ρ S).bind fun o S1 => (fi ρ S1).bind fun i S2 => okE ρ (setL d o i S2)
theorem Imp.to {α β : Type} {Ra : Kh → List Addr → Sto → Hp → α → β → Prop} {t : St → Hp → (β → Hp → Prop) → Prop} {f : Env → Sto → Rs α} (i : Imp X W Ra t f) (rl : Rl (KX X κ) m S H) (re : RE (KX X κ) m S H ρ σ) {d : α} {S1 : Sto} (e : f ρ S = .ok d S1) {C : β → Hp → Prop}
    (h : ∀ v H1 m1, Nx (KX X κ) m S H m1 S1 H1 → Rl (KX X κ) m1 S1 H1 → RE (KX X κ) m1 S1 H1 ρ σ → Ra (KX X κ) m1 S1 H1 d v → C v H1) : t σ H C := by
  refine i κ ρ S σ H m C rl re ?_
  rw [e]
  exact fun v H1 m1 x rl1 r => h v H1 m1 x rl1 (re.nx x) r
theorem dg_setL {o i : Expr} {fo fi : ED} (ho : DE X W o fo) (hi : DE X W i fi)
    (ha : ∀ v, assign (.Subscript o i pos) X.env v = (do
      let ov ← holding [v] (eval o X.env)
      let iv ← holding [v, ov] (eval i X.env)
      standAt pos
      holding [v, ov, iv] (setItem ov iv v)
      release [v, ov, iv] []) := by intro _; rfl) : DG X W (.Subscript o i pos) (gSetL fo fi) := by
  obtain ⟨t1, p1, i1⟩ := ho
  obtain ⟨t2, p2, i2⟩ := hi
  refine ⟨_, pg_sub p1 p2 set_list ha, fun κ d v ρ S σ H m Q rl re r h => ?_⟩
  unfold gSetL at h
  cases e1 : fo ρ S with
  | st => rw [e1] at h; exact h.elim
  | ex _ _ => rw [e1] at h; exact h.elim
  | ok o' S1 =>
    rw [e1] at h
    refine i1.to rl re e1 fun v1 H1 m1 x1 rl1 re1 r1 => ?_
    have h1 : PostG X κ m1 S1 H1 ((fi ρ S1).bind fun i S2 => okE ρ (setL d o' i S2)) Q := PostG.nx x1 h
    cases e2 : fi ρ S1 with
    | st => rw [e2] at h1; exact h1.elim
    | ex _ _ => rw [e2] at h1; exact h1.elim
    | ok i' S2 =>
      rw [e2] at h1
      refine i2.to rl1 re1 e2 fun v2 H2 m2 x2 rl2 re2 r2 => ?_
      have h2 : PostG X κ m2 S2 H2 (okE ρ (setL d o' i' S2)) Q := PostG.nx x2 h1
      cases e3 : setL d o' i' S2 with
      | none => rw [e3] at h2; exact h2.elim
      | some S3 =>
        rw [e3] at h2
        unfold setL at e3
        split at e3
        · rename_i n
          split at e3
          · rename_i k
            split at e3
            · rename_i l es
              split at e3
              · rename_i j ej
                cases e3
                obtain ⟨p, em, rfl⟩ := r1.nx x2
                obtain ⟨vs, q1, q2⟩ := rl2.obj n p _ em es
                have rd := (r.nx x1).nx x2
                have q3 := pairSet q2 (i := j) rd
                exact ⟨p, vs, k, j, rfl, r2.int, q1, by rw [← pairLen q2]; exact ej, h2 σ _ m2 (Nx.put rl2 em es rfl) (rl2.putL em es q3) (re2.nx (Nx.put rl2 em es rfl))⟩
              · cases e3
            · cases e3
          · cases e3
        · cases e3
def sAsg (f : ED) (g : GD) : SD := fun ρ S => liftS ρ (f ρ S) fun d S1 => match g d ρ S1 with
  | .ok ρ1 S2 => .nx ρ1 S2
  | _ => .st
theorem imp_asg {te : TE} {t : TG} {g : GD} (ie : Imp X W RD te fe) (ig : ∀ κ d v ρ S σ H m Q, Rl (KX X κ) m S H → RE (KX X κ) m S H ρ σ → RD (KX X κ) m S H d v → PostG X κ m S H (g d ρ S) Q → t v σ H Q) : ImpS X W (tAsg te t) (sAsg fe g) := by
  intro κ ρ S σ H m Dn rl re h
  refine ie.seqS rl re h fun d S1 v H1 m1 x1 rl1 re1 r1 h1 => ?_
  refine ig κ d v ρ S1 σ H1 m1 _ rl1 re1 r1 ?_
  split at h1
  · rename_i e
    rw [e]
    exact h1
  · exact h1.elim
theorem ds_asg {tg : Expr} {g : GD} (he : DE X W e fe) (hg : DG X W tg g) (hs : swapsWithSole [tg] e pos.line X.env = pure false := by rfl) (hw : swappedStores [tg] e X.env = pure none := by rfl)
    (h1 : (assignEach [tg] X.env).map (·.2) = [assign tg X.env] := by rfl) : DS X W (.Assign [tg] e pos) (sAsg fe g) := by
  obtain ⟨te, pe, ie⟩ := he
  obtain ⟨t, pg, ig⟩ := hg
  exact ⟨_, ps_asg pe pg hs hw h1, imp_asg ie ig⟩
def sSet (i : Nat) (f : ED) : SD := fun ρ S => liftS ρ (f ρ S) fun d S1 => .nx (ρ.set i (some d)) S1
theorem ds_set {i : Nat} {x : Str} {pos' : Pos} (hN : X.N.Nodup) (hi : X.N[i]? = some x) (hx : Loc X.env.scope x) (he : DE X W e fe) (hs : swapsWith e (some (.Name x pos')) pos.line X.env = pure false := by rfl)
    (hf : X.fn x = true ∨ X.env.scope.names.lookup x = some .local := by first | exact .inl rfl | exact .inr rfl | assumption) : DS X W (.Assign [.Name x pos'] e pos) (sSet i fe) := by
  obtain ⟨te, pe, ie⟩ := he
  refine ⟨_, ps_set hN hi hx pe hs hf, fun κ ρ S σ H m Dn rl re h => ?_⟩
  refine ie.seqS rl re h fun d S1 v H1 m1 x1 rl1 re1 r1 h1 => ?_
  exact h1 _ H1 m1 .refl rl1 (pairSet re1 fun d' e => ⟨v, rfl, by cases e; exact r1⟩)
def sAug (i : Nat) (f : ED) (g : D → D → Sto → Rs D) : SD := fun ρ S => match ρ[i]? with
  | some (some x) => liftS ρ (f ρ S) fun y S1 => liftS ρ (g x y S1) fun z S2 => .nx (ρ.set i (some z)) S2
  | _ => .st
theorem ds_aug {i : Nat} {x : Str} {op : Operator} {pos' : Pos} {g : D → D → Sto → Rs D} (hN : X.N.Nodup) (hi : X.N[i]? = some x) (hx : Loc X.env.scope x) (he : DE X W e fe) (ho : OpD X W (inplaceOp op) g)
    (hf : X.fn x = true ∨ X.env.scope.names.lookup x = some .local := by first | exact .inl rfl | exact .inr rfl | assumption) : DS X W (.AugAssign (.Name x pos') op e pos) (sAug i fe g) := by
  obtain ⟨te, pe, ie⟩ := he
  obtain ⟨r, o, hr⟩ := ho
  refine ⟨_, ps_aug hN hi hx pe o hf, fun κ ρ S σ H m Dn rl re h => ?_⟩
  unfold sAug at h
  split at h
  · rename_i d0 e0
    obtain ⟨v0, e1, q⟩ := pairGet re e0
    obtain ⟨u, rfl, r0⟩ := q d0 rfl
    refine ⟨u, e1, ?_⟩
    refine ie.seqS rl re h fun d S1 v H1 m1 x1 rl1 re1 r1 h1 => ?_
    refine hr κ d0 d u v m1 S1 H1 σ _ rl1 (r0.nx x1) r1 ?_
    cases e2 : g d0 d S1 with
    | st => rw [e2] at h1; exact h1
    | ex y S2 => rw [e2] at h1; exact fun H' m' c dd x rl' rx => h1 σ H' m' c dd x rl' (re1.nx x) rx
    | ok z S2 =>
      rw [e2] at h1
      exact fun v' H' m' x rl' rz => h1 _ H' m' x rl' (pairSet (re1.nx x) fun d' e => ⟨v', rfl, by cases e; exact rz⟩)
  · exact h.elim
def gAddI : D → D → Sto → Rs D := fun x y S => match x, y with
  | .p (.int i), .p (.int j) => .ok (.int (i + j)) S
  | .p (.str a), .p (.str b) => if a.length + b.length ≤ sizeLine then .ok (.str (a ++ b)) S else .st
  | _, _ => .st
theorem oi_add : OpD X W (inplaceOp .Add) gAddI := by
  refine ⟨_, OpR.or iop_add iop_add_str, fun κ x y vx vy m S H σ Q rl rx ry h => ?_⟩
  unfold gAddI at h
  split at h
  · exact .inl ⟨_, _, rx.int, ry.int, h.ok' .refl rl RD.int_⟩
  · split at h
    · rename_i hl
      exact .inr ⟨_, _, rx.str, ry.str, hl, h.ok' .refl rl RD.str_⟩
    · exact h.elim
  · exact h.elim
structure ItOk (K : Kh) (m : List Addr) (S : Sto) (H : Hp) (J : It) (ds : List D) (chk : Sto → Prop) : Prop where
  here : chk S
  go : ∀ (h' : Addr → Prop) (m' : List Addr) (S' : Sto) (H' : Hp) (i : Nat) (d : D), (∀ a, h' a → K.h a ∨ H a = none) → Nx K m S H m' S' H' → Rl ⟨K.K, h', K.g⟩ m' S' H' → chk S' → ds[i]? = some d →
    J.go i H' ∧ ∀ x H'', J.yld i H' x H'' → Nx ⟨K.K, h', K.g⟩ m' S' H' m' S' H'' ∧ Rl ⟨K.K, h', K.g⟩ m' S' H'' ∧ RD ⟨K.K, h', K.g⟩ m' S' H'' d x
  stop : ∀ (h' : Addr → Prop) (m' : List Addr) (S' : Sto) (H' : Hp) (i : Nat), (∀ a, h' a → K.h a ∨ H a = none) → Nx K m S H m' S' H' → Rl ⟨K.K, h', K.g⟩ m' S' H' → chk S' → ds.length ≤ i → J.stop i H'
abbrev IDt := List D × (Sto → Prop)
structure DI (X : Cx) (W : WX) (tg iter : Expr) (f : Env → Sto → Rs IDt) : Prop where
  ex : ∃ wi : TI, PI X tg iter wi ∧ Imp X W (fun K m S H (d : IDt) (J : It) => ItOk K m S H J d.1 d.2) wi f
def chkOf (d : D) (l : List D) : Sto → Prop := match d with
  | .ob n => fun S => lItems S (.ob n) = some l
  | _ => fun _ => True
def iLst (f : ED) : Env → Sto → Rs IDt := fun ρ S => (f ρ S).bind fun d S1 => match lItems S1 d with
  | some l => .ok (l, chkOf d l) S1
  | none => .st
def iTpl (f : ED) : Env → Sto → Rs IDt := fun ρ S => (f ρ S).bind fun d S1 => match d with
  | .p (.tuple l) => .ok (l.map .p, fun _ => True) S1
  | _ => .st
def rngL (lo : Int) (n : Nat) : List D := (List.range n).map fun (k : Nat) => D.int (lo + (k : Int))
noncomputable def big62 (i : Int) : Bool := @decide (-(2 ^ 62) ≤ i ∧ i < 2 ^ 62) (Classical.propDecidable _)
theorem big62_iff {i : Int} (h : big62 i = true) : -(2 ^ 62) ≤ i ∧ i < 2 ^ 62 := @of_decide_eq_true _ (Classical.propDecidable _) h
noncomputable def iRgA (f : AD) : Env → Sto → Rs IDt := fun ρ S => (f ρ S).bind fun ds S1 => match ds with
  | [.p (.int j)] => if big62 j = true then .ok (rngL 0 j.toNat, fun _ => True) S1 else .st
  | _ => .st
noncomputable def iRgB (f : AD) : Env → Sto → Rs IDt := fun ρ S => (f ρ S).bind fun ds S1 => match ds with
  | [.p (.int i), .p (.int j)] => if big62 i = true ∧ big62 j = true then .ok (rngL i (j - i).toNat, fun _ => True) S1 else .st
  | _ => .st
theorem itr_ok {lo : Int} {n : Nat} : ItOk (KX X κ) m S H (Itr lo n) (rngL lo n) (fun _ => True) := by
  refine ⟨trivial, fun h' m' S' H' i d' hs x rl' ck e => ?_, fun h' m' S' H' i hs x rl' ck hi => ?_⟩
  · unfold rngL at e
    rw [List.getElem?_map] at e
    have hi : i < n := by
      cases h : (List.range n)[i]? with
      | none => rw [h] at e; cases e
      | some k =>
        have := (List.getElem?_eq_some_iff.mp h).1
        simpa using this
    rw [List.getElem?_range hi] at e
    cases e
    refine ⟨hi, fun z H'' hy => ?_⟩
    obtain ⟨rfl, rfl⟩ := hy
    exact ⟨.refl, rl', RD.int_⟩
  · unfold rngL at hi
    rw [List.length_map, List.length_range] at hi
    exact hi
theorem RDs1 {d : D} {vs : List V} (h : RDs (KX X κ) m S H [d] vs) : ∃ v, vs = [v] ∧ RD (KX X κ) m S H d v := by
  cases h with
  | cons h1 h2 => cases h2; exact ⟨_, rfl, h1⟩
theorem RDs2 {d d' : D} {vs : List V} (h : RDs (KX X κ) m S H [d, d'] vs) : ∃ v v', vs = [v, v'] ∧ RD (KX X κ) m S H d v ∧ RD (KX X κ) m S H d' v' := by
  cases h with
  | cons h1 h2 =>
    obtain ⟨v', rfl, h3⟩ := RDs1 h2
    exact ⟨_, _, rfl, h1, h3⟩
theorem di_range1 {tg : Expr} {p : Pos} {ga : AD} (hg : Gl X "range") (hm : X.mg "range" = none) (ha : DA X W [a] ga) (hs : starEach [a] X.env = [(false, eval a X.env)] := by rfl) : DI X W tg (.Call (.Name "range" p) [a] [] pos) (iRgA ga) := by
  obtain ⟨t, q, i⟩ := ha
  refine ⟨_, pi_range1 hg hm q hs, fun κ ρ S σ H m Q rl re h => ?_⟩
  refine i.seq rl re h fun d S1 v H1 m1 x1 rl1 re1 r1 h1 => ?_
  split at h1
  · split at h1
    · rename_i j hj
      obtain ⟨u, rfl, q1⟩ := RDs1 r1
      have hj := big62_iff hj
      rw [q1.int]
      exact ⟨j, rfl, hj.1, hj.2, h1.ok' .refl rl1 itr_ok⟩
    · exact h1.elim
  · exact h1.elim
theorem di_range2 {tg : Expr} {p : Pos} {ga : AD} (hg : Gl X "range") (hm : X.mg "range" = none) (ha : DA X W [a, b] ga) (hs : starEach [a, b] X.env = [(false, eval a X.env), (false, eval b X.env)] := by rfl) (hs2 : starEach [b] X.env = [(false, eval b X.env)] := by rfl) :
    DI X W tg (.Call (.Name "range" p) [a, b] [] pos) (iRgB ga) := by
  obtain ⟨t, q, i⟩ := ha
  refine ⟨_, pi_range2 hg hm q hs hs2, fun κ ρ S σ H m Q rl re h => ?_⟩
  refine i.seq rl re h fun d S1 v H1 m1 x1 rl1 re1 r1 h1 => ?_
  split at h1
  · split at h1
    · rename_i i j hj
      obtain ⟨u, u', rfl, q1, q2⟩ := RDs2 r1
      have h1' := big62_iff hj.1
      have h2' := big62_iff hj.2
      rw [q1.int, q2.int]
      exact ⟨i, j, rfl, ⟨h1'.1, h1'.2, h2'.1, h2'.2⟩, h1.ok' .refl rl1 itr_ok⟩
    · exact h1.elim
  · exact h1.elim
open Classical in
noncomputable def forL (g : GD) (body : SD) (chk : Sto → Prop) : List D → Env → Sto → Out
  | [], ρ, S => .nx ρ S
  | d :: ds, ρ, S => match g d ρ S with
    | .ok ρ1 S1 => (match body ρ1 S1 with
      | .nx ρ2 S2 => if chk S2 then forL g body chk ds ρ2 S2 else .st
      | .ct ρ2 S2 => if chk S2 then forL g body chk ds ρ2 S2 else .st
      | .bk ρ2 S2 => .nx ρ2 S2
      | o => o)
    | _ => .st
noncomputable def sFor (f : Env → Sto → Rs IDt) (g : GD) (body : SD) : SD := fun ρ S => liftS ρ (f ρ S) fun d S1 => forL g body d.2 d.1 ρ S1
theorem imp_for {wi : TI} {t : TG} {tb : TS} {f : Env → Sto → Rs IDt} {g : GD} {fb : SD} (ii : Imp X W (fun K m S H (d : IDt) (J : It) => ItOk K m S H J d.1 d.2) wi f)
    (ig : ∀ κ d v ρ S σ H m Q, Rl (KX X κ) m S H → RE (KX X κ) m S H ρ σ → RD (KX X κ) m S H d v → PostG X κ m S H (g d ρ S) Q → t v σ H Q) (ib : ImpS X W tb fb) : ImpS X W (tFor wi t tb) (sFor f g fb) := by
  intro κ ρ S σ H m Dn rl re h
  refine ii.seqS rl re h fun d S1 J H1 m1 x1 rl1 re1 ok h1 => ?_
  obtain ⟨ds, chk⟩ := d
  have ok : ItOk (KX X κ) m1 S1 H1 J ds chk := ok
  refine ⟨fun i n σ' H' => n = ds.length - i ∧ i ≤ ds.length ∧ ∃ ρ' S' m', Nx (KX X κ) m1 S1 H1 m' S' H' ∧ Rl (KX X κ) m' S' H' ∧ RE (KX X κ) m' S' H' ρ' σ' ∧ chk S' ∧ PostS X κ W m' S' H' (forL g fb chk (ds.drop i) ρ' S') Dn,
    ⟨ds.length, by simp, Nat.zero_le _, ρ, S1, m1, .refl, rl1, re1, ok.here, by simpa using h1⟩, ?_⟩
  rintro i n σ2 H2 ⟨rfl, hi, ρ2, S2, m2, x2, rl2, re2, ck, h2⟩
  by_cases hlt : i < ds.length
  · have ed : ds.drop i = ds[i] :: ds.drop (i + 1) := List.drop_eq_getElem_cons hlt
    rw [ed] at h2
    obtain ⟨hgo, hy⟩ := ok.go κ m2 S2 H2 i ds[i] (fun _ z => .inl z) x2 rl2 ck (List.getElem?_eq_getElem hlt)
    refine .inr ⟨hgo, fun σ' H' => i + 1 ≤ ds.length ∧ ∃ ρ' S' m', Nx (KX X κ) m1 S1 H1 m' S' H' ∧ Rl (KX X κ) m' S' H' ∧ RE (KX X κ) m' S' H' ρ' σ' ∧ chk S' ∧ PostS X κ W m' S' H' (forL g fb chk (ds.drop (i + 1)) ρ' S') Dn,
      fun σ' H' z => ⟨ds.length - (i + 1), by omega, rfl, z.1, z.2⟩, fun x H'' y => ?_⟩
    obtain ⟨x3, rl3, r3⟩ := hy x H'' y
    refine ig κ ds[i] x ρ2 S2 σ2 H'' m2 _ rl3 (re2.nx x3) r3 ?_
    have h3 := PostS.nx x3 h2
    unfold forL at h3
    cases e1 : g ds[i] ρ2 S2 with
    | st => simp only [e1] at h3; exact h3.elim
    | ex _ _ => simp only [e1] at h3; exact h3.elim
    | ok ρ4 S4 =>
      simp only [e1] at h3
      intro σ4 H4 m4 x4 rl4 re4
      refine ib κ ρ4 S4 σ4 H4 m4 _ rl4 re4 ?_
      have h4 := PostS.nx x4 h3
      have x14 := (x2.trans x3).trans x4
      cases e2 : fb ρ4 S4 with
      | st => simp only [e2] at h4; exact h4.elim
      | nx ρ5 S5 =>
        simp only [e2] at h4
        intro σ5 H5 m5 x5 rl5 re5
        by_cases hc : chk S5
        · rw [if_pos hc] at h4
          exact ⟨hlt, ρ5, S5, m5, x14.trans x5, rl5, re5, hc, PostS.nx x5 h4⟩
        · rw [if_neg hc] at h4; exact h4.elim
      | ct ρ5 S5 =>
        simp only [e2] at h4
        intro σ5 H5 m5 x5 rl5 re5
        by_cases hc : chk S5
        · rw [if_pos hc] at h4
          exact ⟨hlt, ρ5, S5, m5, x14.trans x5, rl5, re5, hc, PostS.nx x5 h4⟩
        · rw [if_neg hc] at h4; exact h4.elim
      | bk ρ5 S5 => simp only [e2] at h4; exact h4
      | rt d5 S5 => simp only [e2] at h4; exact h4
      | ex x5 ρ5 S5 => simp only [e2] at h4; exact h4
  · have e0 : ds.drop i = [] := List.drop_eq_nil_of_le (Nat.le_of_not_lt hlt)
    rw [e0] at h2
    exact .inl ⟨ok.stop κ m2 S2 H2 i (fun _ z => .inl z) x2 rl2 ck (Nat.le_of_not_lt hlt), h2 σ2 H2 m2 .refl rl2 re2⟩
theorem ds_for {tg iter : Expr} {body : List Stmt} {f : Env → Sto → Rs IDt} {g : GD} {fb : SD} (hp : PassesOwn (model X.prog X.w) X.A X.env X.xe) (hc : X.calm = true) (hi : DI X W tg iter f) (hg : DG X W tg g) (hb : DSs X W body fb)
    (hs : ∀ x, foldedSetIterable iter X.env x = pure x := by intro _; rfl) : DS X W (.For tg iter body [] pos) (sFor f g fb) := by
  obtain ⟨wi, pi, ii⟩ := hi
  obtain ⟨t, pg, ig⟩ := hg
  obtain ⟨tb, pb, ib⟩ := hb
  exact ⟨_, ps_for hp hc pi pg pb hs, imp_for ii ig ib⟩
end
end DL
namespace DL
open PySem PySem.Spec PyProof.Rows L2
abbrev FD := List D → Sto → Rs D
def PostF (K : Kh) (mg : Str → Option Value) (m : List Addr) (S : Sto) (H : Hp) (r : Rs D) (Q : VK) (E : XK) : Prop := match r with
  | .st => False
  | .ok d S' => ∀ v H' m', Nx K m S H m' S' H' → Rl K m' S' H' → RD K m' S' H' d v → Q v H'
  | .ex x S' => ∀ H' m' c dd, Nx K m S H m' S' H' → Rl K m' S' H' → RX mg K (lv K m' S') H' x c dd → E c dd H'
def spOf (K : PySem.W.Frag) (mg : Str → Option Value) (n : Nat) (g : FD) : Sp := fun vs H Q E => vs.length = n ∧ ∃ κ ds S m, Rl ⟨K, κ, mg⟩ m S H ∧ RDs ⟨K, κ, mg⟩ m S H ds vs ∧ PostF ⟨K, κ, mg⟩ mg m S H (g ds S) Q E
def noEx (r : Rs D) : Rs D := match r with
  | .ex _ _ => .st
  | r => r
@[simp] theorem noEx_ok (d : D) (S : Sto) : noEx (.ok d S) = .ok d S := rfl
structure FnD (P : Program) (w : World) (K : PySem.W.Frag) (mg : Str → Option Value) (base : Heap) (k : Nat) (x : Str) (n : Nat) (g : FD) : Prop where
  ex : ∃ (f : Addr) (fd : FuncData) (ps : List Str), ps.length = n ∧ mg x = some (.ref f) ∧ PySem.W.keepIn K (.ref f) = true ∧ Binds K fd ps [] ∧ FnOk P w K mg base CX0 k f fd ps (spOf K mg n fun ds S => noEx (g ds S))
def Dn (S : Sto) (o : Out) (r : Rs D) : Prop := match r with
  | .st => True
  | .ok d S' => S.length ≤ S'.length ∧ ClS S'.length S' ∧ ClD S'.length d ∧ ((∃ T, o = .rt d (S' ++ T)) ∨ (d = .non ∧ ∃ ρ T, o = .nx ρ (S' ++ T)) ∨
      ∃ (n : Nat) (l : List PyData) (S2 : Sto), o = .rt (.ob n) S2 ∧ S.length ≤ n ∧ S2[n]? = some (.lst (l.map .p)) ∧ S.length ≤ S2.length ∧ ClS S.length (S2.take S.length) ∧ d = .ob S.length ∧ S' = S2.take S.length ++ [.lst (l.map .p)])
  | .ex x S' => S.length ≤ S'.length ∧ ClS S'.length S' ∧ ∃ ρ T, o = .ex x ρ (S' ++ T)
def start0 (N : List Str) (ds : List D) : Env := ds.map some ++ List.replicate (N.length - ds.length) none
section
variable {P : Program} {w : World} {K : PySem.W.Frag} {mg : Str → Option Value} {base : Heap}
theorem RE_start {K : Kh} {m : List Addr} {S : Sto} {H : Hp} {N : List Str} {ds : List D} {vs : List V} (r : RDs K m S H ds vs) : RE K m S H (start0 N ds) (L2.start N vs) := by
  unfold start0 L2.start
  rw [pairLen r]
  refine pairApp ?_ ?_
  · induction r with
    | nil => exact .nil
    | cons h _ ih => exact .cons (fun d e => by cases e; exact ⟨_, rfl, h⟩) ih
  · generalize N.length - vs.length = n
    induction n with
    | zero => exact .nil
    | succ n ih => exact .cons (fun d e => by cases e) ih
theorem lv_solo {K : Kh} {m : List Addr} {S : Sto} {k n : Nat} {a b : Addr} {l : List PyData} (hk : k ≤ S.length) (hm : m.length = S.length) (em : m[n]? = some a) (es : S[n]? = some (.lst (l.map .p))) (h : lv K (m.take k ++ [a]) (S.take k ++ [.lst (l.map .p)]) b) : lv K m S b := by
  have l1 : (m.take k).length = k := by rw [List.length_take]; omega
  have l2 : (S.take k).length = k := by rw [List.length_take]; omega
  rcases h with h | ⟨i, x, e1, e2, e3⟩
  · exact .inl h
  · by_cases hi : i < k
    · rw [List.getElem?_append_left (by omega), List.getElem?_take_of_lt hi] at e1 e2
      exact .inr ⟨i, x, e1, e2, e3⟩
    · rw [List.getElem?_append_right (by omega), l1] at e1
      have h0 : i - k = 0 := by
        have := (List.getElem?_eq_some_iff.mp e1).1
        simp at this
        omega
      rw [h0] at e1
      cases e1
      exact .inr ⟨n, _, em, es, rfl⟩
theorem RD.solo {K : Kh} {m : List Addr} {S : Sto} {H : Hp} {k n : Nat} {a : Addr} {l : List PyData} (hk : k ≤ S.length) (hm : m.length = S.length) (em : m[n]? = some a) (es : S[n]? = some (.lst (l.map .p))) {d : D} {v : V} (c : ClD k d) (h : RD K m S H d v) : RD K (m.take k ++ [a]) (S.take k ++ [.lst (l.map .p)]) H d v := by
  have l1 : (m.take k).length = k := by rw [List.length_take]; omega
  cases d with
  | p d => exact RP.mono (fun _ _ q => q) (fun _ _ q nl => ⟨q, fun z => nl (lv_solo hk hm em es z)⟩) d v h
  | scr _ => exact h
  | xc _ _ _ => exact h
  | ob i =>
    obtain ⟨b, e, rfl⟩ := h
    have c : i < k := c
    exact ⟨b, by rw [List.getElem?_append_left (by omega), List.getElem?_take_of_lt c]; exact e, rfl⟩
theorem Rl.solo {K : Kh} {m : List Addr} {S : Sto} {H : Hp} {k n : Nat} {a : Addr} {l : List PyData} (r : Rl K m S H) (hn : k ≤ n) (em : m[n]? = some a) (es : S[n]? = some (.lst (l.map .p))) (hk : k ≤ S.length) (c : ClS k (S.take k)) : Rl K (m.take k ++ [a]) (S.take k ++ [.lst (l.map .p)]) H := by
  have hm := r.len
  have l1 : (m.take k).length = k := by rw [List.length_take]; omega
  have l2 : (S.take k).length = k := by rw [List.length_take]; omega
  have na : a ∉ m.take k := fun z => by
    obtain ⟨i, e⟩ := List.mem_iff_getElem?.mp z
    have hi : i < k := by have := (List.getElem?_eq_some_iff.mp e).1; omega
    rw [List.getElem?_take_of_lt hi] at e
    exact nodup_ne r.nd e em (by omega) rfl
  refine ⟨by simp [l1, l2], ?_, fun b h => ⟨fun z => ?_, (r.hid b h).2⟩, fun i b o ei eo => ?_⟩
  · rw [List.nodup_append]
    refine ⟨r.nd.sublist (List.take_sublist _ _), by simp, fun x hx y hy => ?_⟩
    rw [List.mem_singleton.mp hy]
    exact fun z => na (z ▸ hx)
  · rcases List.mem_append.mp z with z | z
    · exact (r.hid b h).1 (List.mem_of_mem_take z)
    · rw [List.mem_singleton.mp z] at h
      exact (r.hid a h).1 (List.mem_of_getElem? em)
  · by_cases hi : i < k
    · rw [List.getElem?_append_left (by omega), List.getElem?_take_of_lt hi] at ei
      have eo' := eo
      rw [List.getElem?_append_left (by omega)] at eo'
      have co := c o (List.mem_of_getElem? eo')
      rw [List.getElem?_take_of_lt hi] at eo'
      have q := r.obj i b o ei eo'
      cases o with
      | lst l2 =>
        obtain ⟨vs, h1, h2⟩ := q
        exact ⟨vs, h1, pairMonoIn (fun d hd v h => RD.solo hk hm em es (co d hd) h) h2⟩
      | dic l2 =>
        obtain ⟨vs, h1, h2⟩ := q
        exact ⟨vs, h1, pairMonoIn (fun d hd v h => ⟨h.1, RD.solo hk hm em es (co d hd) h.2⟩) h2⟩
      | dik l2 =>
        obtain ⟨vs, h1, h2⟩ := q
        exact ⟨vs, h1, pairMonoIn (fun d hd v h => ⟨h.1, RD.solo hk hm em es (co d hd) h.2⟩) h2⟩
      | ins c2 l2 =>
        obtain ⟨C, dx, vs, hc, h1, ho, h2⟩ := q
        exact ⟨C, dx, vs, hc, h1, ho, pairMonoIn (fun d hd v h => ⟨h.1, RD.solo hk hm em es (co d hd) h.2⟩) h2⟩
      | fz l2 =>
        obtain ⟨vs, h1, h2⟩ := q
        exact ⟨vs, h1, RPs.mono (fun _ _ q => q) (fun _ _ q nl => ⟨q, fun z => nl (lv_solo hk hm em es z)⟩) l2 vs h2⟩
      | lck => exact q
      | lkd l2 => exact q
    · rw [List.getElem?_append_right (by omega), l1] at ei
      have h0 : i - k = 0 := by
        have := (List.getElem?_eq_some_iff.mp ei).1
        simp at this
        omega
      rw [h0] at ei
      cases ei
      rw [List.getElem?_append_right (by omega), l2, h0] at eo
      cases eo
      obtain ⟨vs, h1, h2⟩ := r.obj n a _ em es
      refine ⟨vs, h1, pairMonoIn (fun d hd v h => RD.solo hk hm em es ?_ h) h2⟩
      obtain ⟨p, _, rfl⟩ := List.mem_map.mp hd
      trivial
theorem RD.soloO {K : Kh} {m : List Addr} {S : Sto} {H : Hp} {k : Nat} {a : Addr} {o : O} (r : Rl K m S H) (hk : k ≤ S.length) : RD K (m.take k ++ [a]) (S.take k ++ [o]) H (.ob k) (.ref a) := by
  have l1 : (m.take k).length = k := by rw [List.length_take, r.len]; omega
  exact ⟨a, by rw [List.getElem?_append_right (by omega), l1, Nat.sub_self]; rfl, rfl⟩
theorem Nx.solo {K : Kh} {m m' : List Addr} {S S2 : Sto} {H H' : Hp} {n : Nat} {a : Addr} {l : List PyData} (x : Nx K m S H m' S2 H') (r : Rl K m S H) (r' : Rl K m' S2 H') (hn : S.length ≤ n) (em : m'[n]? = some a) (es : S2[n]? = some (.lst (l.map .p))) (hk : S.length ≤ S2.length) : Nx K m S H (m'.take S.length ++ [a]) (S2.take S.length ++ [.lst (l.map .p)]) H' := by
  refine ⟨x.tup, fun b vs h nl => ?_, ?_, x.frz, x.xd, x.hid, x.own⟩
  · obtain ⟨h1, h2⟩ := x.lst b vs h nl
    exact ⟨h1, fun z => h2 (lv_solo hk r'.len em es z)⟩
  · obtain ⟨t, rfl⟩ := x.ext
    exact ⟨[a], by rw [← r.len, List.take_left']; rfl⟩
theorem post_of {X : Cx} {κ : Addr → Prop} {W : WX} {m : List Addr} {S : Sto} {H : Hp} {o : Out} {r : Rs D} {Q : VK} {E : XK} (rl : Rl (KX X κ) m S H) (dn : Dn S o r) (h : PostF (KX X κ) X.mg m S H r Q E) (hE : ∀ c dd σ H, E c dd H → W c dd σ H) :
    PostS X κ W m S H o { nx := fun _ H' => Q .non H', rt := Q } := by
  cases r with
  | st => exact h.elim
  | ok d S' =>
    obtain ⟨hl, cs, cd, dn⟩ := dn
    rcases dn with ⟨T, rfl⟩ | ⟨rfl, ρ, T, rfl⟩ | ⟨n, l, S2, rfl, hn, es, hl2, cs2, rfl, rfl⟩
    · exact fun v H' m' x rl' r => h v H' (m'.take S'.length) (x.drop rl rl' hl) (rl'.drop cs) (RD.drop r cd)
    · exact fun σ' H' m' x rl' r => h .non H' (m'.take S'.length) (x.drop rl rl' hl) (rl'.drop cs) RD.non_
    · intro v H' m' x rl' r
      obtain ⟨a, em, rfl⟩ := r
      exact h _ H' (m'.take S.length ++ [a]) (Nx.solo x rl rl' hn em es hl2) (Rl.solo rl' hn em es hl2 cs2) (RD.soloO rl' hl2)
  | ex y S' =>
    obtain ⟨hl, cs, ρ, T, rfl⟩ := dn
    refine fun σ' H' m' c dd x rl' re rx => hE c dd σ' H' (h H' (m'.take S'.length) c dd (x.drop rl rl' hl) (rl'.drop cs) ?_)
    exact rx
theorem Fun.dl {x : Str} {st : Stmt} {f : Addr} {fd : FuncData} {N ps : List Str} {k : Nat} {F : SD} {g : FD} (Fu : Fun K x x st f fd) (Sc : FnScope N ps (defScope st)) (gm : mg x = some (.ref f)) (bd : Binds K fd ps [])
    (body : ∀ (cdv : Value) (A : Around) (outer : List PySem.Env) (s : Shared) (H : Hp) (E : XK), Room k (A.deeper (envOfC x (defScope st) s.heap.objs.size f cdv)) →
      DSs (cxOf CX0 P w K mg base N x (defScope st) f cdv A outer s H E).nox (fun _ _ _ _ => False) (defBody st) F)
    (hg : ∀ ds S, ds.length = ps.length → ClS S.length S → (∀ d ∈ ds, ClD S.length d) → Dn S (F (start0 N ds) S) (g ds S)) : FnD P w K mg base (k + 1) x ps.length g := by
  refine ⟨f, fd, ps, rfl, gm, Fu.kp, bd, Fu.ok Sc (fun vs H Q E h => h.1) fun cdv A outer s H vs Q E hr h => ?_⟩
  obtain ⟨hl, κ, ds, S, m, rl, rd, po⟩ := h
  obtain ⟨t, pt, it⟩ := body cdv A outer s H E hr
  refine ⟨t, pt, it κ (start0 N ds) S (L2.start N vs) H m _ rl (RE_start rd) ?_⟩
  refine post_of (E := fun _ _ _ => False) rl (hg ds S ((pairLen rd).trans hl) rl.cl (fun d hd => ?_)) ?_ (fun _ _ _ _ z => z)
  · have := pairAll (F := RD ⟨K, κ, mg⟩ m S H) (P := ClD m.length) (fun _ _ q => q.cl) rd d hd
    rw [rl.len] at this
    exact this
  · have po : PostF ⟨K, κ, mg⟩ mg m S H (noEx (g ds S)) Q E := po
    cases e : g ds S with
    | st => rw [e] at po; exact po.elim
    | ok d S' => rw [e] at po; exact po
    | ex y S' => rw [e] at po; exact po.elim
end
section
variable {X : Cx} {W : WX} {m m1 : List Addr} {S S1 : Sto} {H H1 : Hp} {σ : St} {ρ : Env} {κ : Addr → Prop}
variable {a b c e o : Expr} {pos : Pos} {fa fb fe fo : ED} {es : List Expr} {ga : AD}
def eCall (n : Nat) (g : FD) (ga : AD) : ED := fun ρ S => (ga ρ S).bind fun ds S1 => if ds.length = n then noEx (g ds S1) else .st
def eCallX (n : Nat) (g : FD) (ga : AD) : ED := fun ρ S => (ga ρ S).bind fun ds S1 => if ds.length = n then g ds S1 else .st
theorem PostF.of {r : Rs D} {Q : VK} (h : Post X κ W m S H σ (RD (KX X κ)) r Q) : PostF (KX X κ) X.mg m S H r Q (fun c dd H' => W c dd σ H') := by
  cases r with
  | st => exact h
  | ok d S' => exact h
  | ex x S' => exact h
theorem PostF.no {r : Rs D} {Q : VK} {E : XK} (h : Post X κ W m S H σ (RD (KX X κ)) (noEx r) Q) : PostF (KX X κ) X.mg m S H (noEx r) Q E := by
  cases r with
  | st => exact h
  | ok d S' => exact h
  | ex x S' => exact h.elim
theorem de_call {k j n : Nat} {x : Str} {p : Pos} {g : FD} (F : FnD X.prog X.w X.K X.mg X.base k x n g) (hr : Room j X.A) (hk : k ≤ j) (hg : Gl X x) (ha : DA X W (e :: es) ga)
    (hd : (x == ("__debug__" : Str)) = false := by decide) (hs : starEach (e :: es) X.env = (false, eval e X.env) :: starEach es X.env := by rfl)
    (hp : (backTo pos (starEach es X.env)).any (·.1) = false := by rfl) : DE X W (.Call (.Name x p) (e :: es) [] pos) (eCall n g ga) := by
  obtain ⟨f, fd, ps, hl, gm, kp, bd, ok⟩ := F
  obtain ⟨t, q, i⟩ := ha
  refine ⟨_, pe_call ok (hr.mono hk) hg gm kp bd .nil pass0 q hd hs hp, fun κ ρ S σ H m Q rl re h => ?_⟩
  refine i.seq rl re h fun d S1 v H1 m1 x1 rl1 re1 r1 h1 => ?_
  split at h1
  · rename_i hn
    rw [List.append_nil]
    exact ⟨by rw [← pairLen r1]; exact hn, κ, d, S1, m1, rl1, r1, PostF.no h1⟩
  · exact h1.elim
def CD (X : Cx) (W : WX) (f : Value) (g : FD) : Prop :=
  ∃ r : List V → Hp → VK → Prop, CallR X f r ∧ ∀ κ ds vs m S H σ Q, Rl (KX X κ) m S H → RDs (KX X κ) m S H ds vs → Post X κ W m S H σ (RD (KX X κ)) (g ds S) Q → r vs H Q
def eB (g : FD) (ga : AD) : ED := fun ρ S => (ga ρ S).bind fun ds S1 => g ds S1
theorem de_callB {x : Str} {p : Pos} {id : String} {g : FD} (c : CD X W (.builtin id) g) (hg : Gl X x) (hm : X.mg x = none) (hv : bootBuiltins x = some (.builtin id)) (ha : DA X W (e :: es) ga)
    (hn : x ≠ "__name__" := by decide) (hd : (x == ("__debug__" : Str)) = false := by decide) (hs : starEach (e :: es) X.env = (false, eval e X.env) :: starEach es X.env := by rfl)
    (hp : (backTo pos (starEach es X.env)).any (·.1) = false := by rfl) : DE X W (.Call (.Name x p) (e :: es) [] pos) (eB g ga) := by
  obtain ⟨r, cr, hr⟩ := c
  obtain ⟨t, q, i⟩ := ha
  refine ⟨_, pe_callB cr hg hm hv q hn hd hs hp, fun κ ρ S σ H m Q rl re h => ?_⟩
  exact i.seq rl re h fun d S1 v H1 m1 x1 rl1 re1 r1 h1 => hr κ d v m1 S1 H1 σ Q rl1 r1 h1
theorem de_callT {x : Str} {p : Pos} {T : String} {g : FD} (c : CD X W (.type T) g) (hg : Gl X x) (hm : X.mg x = none) (hv : bootBuiltins x = some (.type T)) (ha : DA X W (e :: es) ga)
    (hn : x ≠ "__name__" := by decide) (hd : (x == ("__debug__" : Str)) = false := by decide) (hs : starEach (e :: es) X.env = (false, eval e X.env) :: starEach es X.env := by rfl)
    (hp : (backTo pos (starEach es X.env)).any (·.1) = false := by rfl) : DE X W (.Call (.Name x p) (e :: es) [] pos) (eB g ga) := by
  obtain ⟨r, cr, hr⟩ := c
  obtain ⟨t, q, i⟩ := ha
  refine ⟨_, pe_callTy cr hg hm hv q hn hd hs hp, fun κ ρ S σ H m Q rl re h => ?_⟩
  exact i.seq rl re h fun d S1 v H1 m1 x1 rl1 re1 r1 h1 => hr κ d v m1 S1 H1 σ Q rl1 r1 h1
def gLen : FD := fun ds S => match ds with
  | [.p (.str z)] => if z.length ≤ sizeLine then .ok (.int z.length) S else .st
  | [.p (.tuple l)] => .ok (.int l.length) S
  | [d] => (match lItems S d with | some l => .ok (.int l.length) S | none => .st)
  | _ => .st
theorem cd_len : CD X W (.builtin "len") gLen := by
  refine ⟨_, call_len, fun κ ds vs m S H σ Q rl rd h => ?_⟩
  unfold gLen at h
  split at h
  · split at h
    · rename_i z hl
      obtain ⟨v, rfl, r⟩ := RDs1 rd
      exact ⟨v, z.length, rfl, by rw [r.str]; exact ⟨hl, rfl⟩, h.ok' .refl rl RD.int_⟩
    · exact h.elim
  · rename_i l
    obtain ⟨v, rfl, r⟩ := RDs1 rd
    obtain ⟨p, ws, rfl, h1, h2⟩ := r.tup'
    exact ⟨_, l.length, rfl, .inr ⟨ws, tu_sq h1, RPs_len h2⟩, h.ok' .refl rl RD.int_⟩
  · split at h
    · rename_i l e
      obtain ⟨v, rfl, r⟩ := RDs1 rd
      obtain ⟨p, ws, rfl, h1, h2⟩ := r.items rl e
      exact ⟨_, l.length, rfl, .inl ⟨ws, h1, pairLen h2⟩, h.ok' .refl rl RD.int_⟩
    · exact h.elim
  · exact h.elim
def gToInt : FD := fun ds S => match ds with
  | [.p (.int i)] => .ok (.int i) S
  | [.p (.bool b)] => .ok (.int (if b then 1 else 0)) S
  | _ => .st
theorem cd_int : CD X W (.type "int") gToInt := by
  refine ⟨_, call_int1, fun κ ds vs m S H σ Q rl rd h => ?_⟩
  unfold gToInt at h
  split at h
  · obtain ⟨v, rfl, r⟩ := RDs1 rd
    exact .inl ⟨_, by rw [r.int], h.ok' .refl rl RD.int_⟩
  · obtain ⟨v, rfl, r⟩ := RDs1 rd
    exact .inr ⟨_, by rw [r.bl], h.ok' .refl rl RD.int_⟩
  · exact h.elim
def gToStr : FD := fun ds S => match ds with
  | [.p (.int i)] => if i.natAbs.log2 < 1920 then .ok (.str (toString i)) S else .st
  | _ => .st
def gMin2 : FD := fun ds S => match ds with
  | [.p (.int i), .p (.int j)] => .ok (.int (if j < i then j else i)) S
  | _ => .st
def gMax2 : FD := fun ds S => match ds with
  | [.p (.int i), .p (.int j)] => .ok (.int (if j > i then j else i)) S
  | _ => .st
def seqP (S : Sto) : D → Option (List PyData)
  | .p (.tuple l) => some l
  | d => vList S d
def gToTup : FD := fun ds S => match ds with
  | [.p (.tuple l)] => .ok (.tup l) S
  | [d] => (match vList S d with | some l => .ok (.tup l) S | none => .st)
  | _ => .st
theorem RD.seqP {d : D} {v : V} {l : List PyData} (r : Rl (KX X κ) m S H) (h : RD (KX X κ) m S H d v) (e : DL.seqP S d = some l) : ∃ a vs, v = .ref a ∧ (SqL X.K H a vs ∨ SqT X.K H a vs) ∧ RPs (KX X κ) H (lv (KX X κ) m S) l vs := by
  unfold DL.seqP at e
  split at e
  · cases e
    obtain ⟨p, vs, rfl, h1, h2⟩ := h.tup'
    exact ⟨p, vs, rfl, .inr (tu_sq h1), h2⟩
  · obtain ⟨p, vs, rfl, h1, h2⟩ := h.vlist r e
    exact ⟨p, vs, rfl, .inl (.of h1), h2⟩
theorem cd_tuple : CD X W (.type "tuple") gToTup := by
  refine ⟨_, call_tuple_of, fun κ ds vs m S H σ Q rl rd h => ?_⟩
  unfold gToTup at h
  split at h
  · obtain ⟨v, rfl, r⟩ := RDs1 rd
    obtain ⟨p, ws, rfl, h1, h2⟩ := r.tup'
    exact ⟨p, ws, rfl, .inr ⟨tu_sq h1, h.ok' .refl rl (tup_of h1 h2)⟩⟩
  · split at h
    · rename_i l e
      obtain ⟨v, rfl, r⟩ := RDs1 rd
      obtain ⟨p, ws, rfl, h1, h2⟩ := r.vlist rl e
      exact ⟨p, ws, rfl, .inl ⟨.of h1, fun z hz => h.ok' (.new rl hz) (rl.new hz) (newT rl hz h2)⟩⟩
    · exact h.elim
  · exact h.elim
def tyN : PyData → String
  | .none => "NoneType"
  | .bool _ => "bool"
  | .int _ => "int"
  | .str _ => "str"
  | .list _ => "list"
  | .tuple _ => "tuple"
  | .dict _ => "dict"
def tyD (S : Sto) : D → Option String
  | .p (.dict _) => none
  | .p d => some (tyN d)
  | .ob n => (match S[n]? with | some (.lst _) => some "list" | some (.fz _) => some "list" | some (.dic _) => some "dict" | _ => none)
  | _ => none
def eIsi (T : String) (f : ED) : ED := fun ρ S => (f ρ S).bind fun d S1 => match tyD S1 d with
  | some t => (match kitB t T with | some b => .ok (.bl b) S1 | none => .st)
  | none => .st
theorem RD.ty {d : D} {v : V} {t : String} (rl : Rl (KX X κ) m S H) (h : RD (KX X κ) m S H d v) (e : tyD S d = some t) : TyX X.K H v (.type t) := by
  unfold tyD at e
  split at e
  · cases e
  · rename_i d _
    cases e
    have h : RP _ _ _ _ _ := h
    cases d with
    | none => rw [RP] at h; subst h; exact .base .non
    | bool b => rw [RP] at h; subst h; exact .base (.bl b)
    | int i => rw [RP] at h; subst h; exact .base (.int i)
    | str x => rw [RP] at h; subst h; exact .base (.str x)
    | list l =>
      rw [RP] at h
      obtain ⟨a, vs, rfl, h1, _⟩ := h
      exact .base (.lst h1)
    | tuple l =>
      rw [RP] at h
      obtain ⟨a, vs, rfl, h1, _⟩ := h
      rcases h1 with h1 | ⟨_, h1⟩
      · exact .base (.tup h1)
      · rcases h1 with h1 | ⟨o, its, n, h1, h2, _⟩
        · rcases h1 with h1 | ⟨_, h1⟩ <;> cases h1
        · exact .kTuple h1 h2
    | dict _ => rw [RP] at h; exact h.elim
  · obtain ⟨a, em, rfl⟩ := h
    split at e
    · rename_i es
      cases e
      obtain ⟨vs, h1, _⟩ := rl.obj _ a _ em es
      exact .base (.lst h1)
    · rename_i es
      cases e
      obtain ⟨vs, h1, _⟩ := rl.obj _ a _ em es
      exact .base (.lst h1)
    · rename_i es
      cases e
      obtain ⟨vs, h1, _⟩ := rl.obj _ a _ em es
      exact .base (.dT h1)
    · cases e
  · cases e
theorem de_isi {T : String} {x : Str} {p p2 : Pos} (hg : Gl X "isinstance") (hm : X.mg "isinstance" = none) (hgT : Gl X x) (hmT : X.mg x = none) (hvT : bootBuiltins x = some (.type T)) (he : DE X W e fe)
    (hv : bootBuiltins "isinstance" = some (.builtin "isinstance") := by decide +kernel) (hnT : x ≠ "__name__" := by decide) (hdT : (x == ("__debug__" : Str)) = false := by decide)
    (hs1 : starEach [e, .Name x p2] X.env = (false, eval e X.env) :: starEach [.Name x p2] X.env := by rfl) (hs2 : starEach [.Name x p2] X.env = (false, eval (.Name x p2) X.env) :: starEach [] X.env := by rfl)
    (hp : (backTo pos (starEach [.Name x p2] X.env)).any (·.1) = false := by rfl) :
    DE X W (.Call (.Name "isinstance" p) [e, .Name x p2] [] pos) (eIsi T fe) := by
  obtain ⟨t, q, i⟩ := he
  refine ⟨_, pe_callB call_isi hg hm hv (pa_cons q (pa_cons (pe_bltn (v := .ty T) hgT hmT hvT rfl hnT hdT) pa_nil hs2) hs1) (by decide) (by decide) hs1 hp, fun κ ρ S σ H m Q rl re h => ?_⟩
  refine i.seq rl re h fun d S1 v H1 m1 x1 rl1 re1 r1 h1 => ?_
  split at h1
  · rename_i t et
    split at h1
    · rename_i k ek
      exact ⟨v, .ty T, _, _, k, rfl, .ty T, r1.ty rl1 et, kit_ty ek, h1.ok' .refl rl1 RD.bl_⟩
    · exact h1.elim
  · exact h1.elim
end
end DL
namespace DL
open PySem PySem.Spec PyProof.Rows L2
section
variable {X : Cx} {W : WX} {m m1 : List Addr} {S S1 : Sto} {H H1 : Hp} {σ : St} {ρ : Env} {κ : Addr → Prop}
variable {a b c e o : Expr} {pos apos : Pos} {fa fb fe fo : ED} {es : List Expr} {ga : AD}
def isLst (S : Sto) : D → Bool
  | .p (.list _) => true
  | .ob n => (match S[n]? with | some (.lst _) => true | some (.fz _) => true | _ => false)
  | _ => false
theorem RD.isl {d : D} {v : V} (rl : Rl (KX X κ) m S H) (h : RD (KX X κ) m S H d v) (e : isLst S d = true) : tyV X.K "list" v H := by
  unfold isLst at e
  split at e
  · obtain ⟨a, vs, rfl, h1, _⟩ := h.lst
    exact .inl ⟨rfl, vs, .of h1⟩
  · obtain ⟨a, em, rfl⟩ := h
    split at e
    · rename_i es
      obtain ⟨vs, q, _⟩ := rl.obj _ a _ em es
      exact .inl ⟨rfl, vs, .of q⟩
    · rename_i es
      obtain ⟨vs, q, _⟩ := rl.obj _ a _ em es
      exact .inl ⟨rfl, vs, .of q⟩
    · cases e
  · cases e
def MD (X : Cx) (W : WX) (id : String) (g : D → FD) : Prop :=
  ∃ r : V → List V → Hp → VK → Prop, MtR X id r ∧ ∀ κ x vx ds vs m S H σ Q, Rl (KX X κ) m S H → RD (KX X κ) m S H x vx → RDs (KX X κ) m S H ds vs → Post X κ W m S H σ (RD (KX X κ)) (g x ds S) Q → r vx vs H Q
def eMth (g : D → FD) (fo : ED) (ga : AD) : ED := fun ρ S => (fo ρ S).bind fun d S1 => if isLst S1 d = true then (ga ρ S1).bind fun ds S2 => g d ds S2 else .st
theorem de_mth {name : Str} {id : String} {g : D → FD} (md : MD X W id g) (slot : Slot "list" name id) (hty : typeOf (.builtin id) = pure (.type "method_descriptor")) (ho : DE X W o fo) (ha : DA X W (e :: es) ga)
    (hb : attributeBase o name X.env (eval o X.env) = eval o X.env := by rfl)
    (h1 : ((backTo pos (starEach (e :: es) X.env)).all (!·.1) && (backToKw pos (keywordEach [] X.env)).all (·.1.isSome) && decide ((e :: es).length + ([] : List Keyword).length + (if ([] : List Keyword).isEmpty then 0 else 1) < 30)) = true := by rfl)
    (h2 : (apos.endLine == pos.line) = true := by rfl) (hs : starEach (e :: es) X.env = (false, eval e X.env) :: starEach es X.env := by rfl) (hp : (backTo pos (starEach es X.env)).any (·.1) = false := by rfl) :
    DE X W (.Call (.Attribute o name apos) (e :: es) [] pos) (eMth g fo ga) := by
  obtain ⟨r, mr, hr⟩ := md
  obtain ⟨t1, p1, i1⟩ := ho
  obtain ⟨t2, p2, i2⟩ := ha
  refine ⟨_, pe_bm PySem.F.plainAttrs_list slot hty mr p1 p2 hb h1 h2 hs hp, fun κ ρ S σ H m Q rl re h => ?_⟩
  refine i1.seq rl re h fun d S1 v H1 m1 x1 rl1 re1 r1 h1 => ?_
  split at h1
  · rename_i el
    refine ⟨r1.isl rl1 el, ?_⟩
    refine i2.seq rl1 re1 h1 fun ds S2 vs H2 m2 x2 rl2 re2 r2 h2 => ?_
    exact hr κ d v ds vs m2 S2 H2 σ Q rl2 (r1.nx x2) r2 h2
  · exact h1.elim
theorem RDs_snoc {l : List D} {vs : List V} {d : D} {v : V} (h : RDs (KX X κ) m S H l vs) (h2 : RD (KX X κ) m S H d v) : RDs (KX X κ) m S H (l ++ [d]) (vs ++ [v]) := pairApp h (.cons h2 .nil)
def oLst (S : Sto) : D → Option (Nat × List D)
  | .ob n => (match S[n]? with | some (.lst l) => some (n, l) | _ => none)
  | _ => none
theorem oLst_some {S : Sto} {d : D} {n : Nat} {l : List D} (h : oLst S d = some (n, l)) : d = .ob n ∧ S[n]? = some (.lst l) := by
  unfold oLst at h
  split at h
  · split at h
    · rename_i es
      cases h
      exact ⟨rfl, es⟩
    · cases h
  · cases h
def gApp : D → FD := fun d ds S => match ds with
  | [x] => (match restD x S with
    | some (p, S2) => (match oLst S2 d with
      | some (n, l) => if l.length < sizeLine then .ok .non (S2.set n (.lst (l ++ [.p p]))) else .st
      | none => .st)
    | none => .st)
  | _ => .st
theorem md_append : MD X W "list.append" gApp := by
  refine ⟨_, mt_append, fun κ x vx ds vs m S H σ Q rl rx rd h => ?_⟩
  unfold gApp at h
  split at h
  · obtain ⟨v, rfl, r⟩ := RDs1 rd
    split at h
    · rename_i p S2 ep
      obtain ⟨rl2, x2, r2⟩ := r.restD rl ep
      split at h
      · rename_i n l en
        obtain ⟨rfl, es⟩ := oLst_some en
        split at h
        · rename_i hl
          obtain ⟨a, em, rfl⟩ := rx
          obtain ⟨ws, q1, q2⟩ := rl2.obj n a _ em es
          refine ⟨a, ws, v, rfl, rfl, q1, by rw [← pairLen q2]; exact hl, ?_⟩
          exact h.ok' (x2.trans (Nx.put rl2 em es rfl)) (rl2.putL em es (RDs_snoc q2 r2)) RD.non_
        · exact h.elim
      · exact h.elim
    · exact h.elim
  · exact h.elim
def strsP : List PyData → Option (List Str)
  | [] => some []
  | .str z :: l => (strsP l).map (z :: ·)
  | _ :: _ => none
theorem strsP_some {κ : Kh} {L : Addr → Prop} : ∀ {l : List PyData} {zs : List Str} {vs : List V}, strsP l = some zs → RPs κ H L l vs → vs = zs.map V.str
  | [], zs, vs, h, r => by
    cases h
    rw [RPs] at r
    exact r
  | .str z :: l, zs, vs, h, r => by
    simp only [strsP, Option.map_eq_some_iff] at h
    obtain ⟨zs', h1, rfl⟩ := h
    rw [RPs] at r
    obtain ⟨v, vs', rfl, r1, r2⟩ := r
    rw [RP] at r1
    rw [r1, strsP_some h1 r2]
    rfl
def eJoin (fo fe : ED) : ED := fun ρ S => (fo ρ S).bind fun d S1 => match d with
  | .p (.str a) => (fe ρ S1).bind fun x S2 => (match seqP S2 x with
    | some l => (match strsP l with
      | some zs => if (zs.map (·.length)).sum + zs.length * a.length ≤ 16777216 then .ok (.str (Txt.join a zs)) S2 else .st
      | none => .st)
    | none => .st)
  | _ => .st
theorem de_join (ho : DE X W o fo) (he : DE X W e fe) (hs : starEach [e] X.env = [(false, eval e X.env)] := by rfl) (hb : attributeBase o "join" X.env (eval o X.env) = eval o X.env := by rfl) (hl : (apos.endLine == pos.line) = true := by rfl) :
    DE X W (.Call (.Attribute o "join" apos) [e] [] pos) (eJoin fo fe) := by
  obtain ⟨t1, p1, i1⟩ := ho
  obtain ⟨t2, p2, i2⟩ := he
  refine ⟨_, pe_join p1 p2 hs hb hl, fun κ ρ S σ H m Q rl re h => ?_⟩
  refine i1.seq rl re h fun d S1 v H1 m1 x1 rl1 re1 r1 h1 => ?_
  split at h1
  · rename_i a
    refine ⟨⟨a, r1.str⟩, ?_⟩
    refine i2.seq rl1 re1 h1 fun d2 S2 v2 H2 m2 x2 rl2 re2 r2 h2 => ?_
    split at h2
    · rename_i l el
      split at h2
      · rename_i zs ez
        split at h2
        · rename_i hz
          obtain ⟨p, vs, rfl, q1, q2⟩ := r2.seqP rl2 el
          have := strsP_some ez q2
          subst this
          exact ⟨a, p, zs, r1.str, rfl, q1, hz, h2.ok' .refl rl2 RD.str_⟩
        · exact h2.elim
      · exact h2.elim
    · exact h2.elim
  · exact h1.elim
end
end DL
namespace DL
open PySem PySem.Spec PyProof.Rows L2
section
variable {X : Cx} {W : WX} {m m1 : List Addr} {S S1 : Sto} {H H1 : Hp} {σ : St} {ρ : Env} {κ : Addr → Prop}
variable {a b c e o : Expr} {pos apos : Pos} {fa fb fe fo : ED} {es : List Expr} {ga : AD}
def flatD : PyData → Bool
  | .none => true
  | .bool _ => true
  | .int _ => true
  | .str _ => true
  | _ => false
def gIn (neg : Bool) : D → D → Sto → Rs D := fun x y S => match x, y with
  | .p (.str t), .p (.str z) => (match t.cps.toList with
    | [c] => .ok (.bl (neg ^^ decide (c ∈ z.cps.toList))) S
    | _ => .st)
  | x, y => (match pNow S x, seqP S y with
    | some p, some l => if flatD p = true ∧ l.all flatD = true then .ok (.bl (neg ^^ l.any fun z => PyData.eqv z p)) S
        else if (vList S y).isSome = true ∧ SeqAt.shaped p = true ∧ SeqAt.shaped (.list l) = true then .ok (.bl (neg ^^ l.any fun z => PyData.eqv z p)) S else .st
    | _, _ => .st)
theorem flat_now {K : PySem.W.Frag} {d : PyData} {v : V} (h : Dp K H v d) (f : flatD d = true) : flatV v = true := by
  cases h <;> first | rfl | cases f
theorem eqv_now {K : PySem.W.Frag} {d d' : PyData} {v v' : V} (h : Dp K H v d) (h' : Dp K H v' d') (f : flatD d = true) (f' : flatD d' = true) : eqV v v' = PyData.eqv d d' := by
  cases h <;> cases h' <;> first | (cases f; done) | (cases f'; done) | rfl | simp [eqV, PyData.eqv, Bool.beq_eq_decide_eq]
theorem dps_pair {K : PySem.W.Frag} : ∀ {l : List PyData} {vs : List V}, DpAll K H vs l → Paired (fun d v => Dp K H v d) l vs
  | [], _, .nil => .nil
  | _ :: _, _, .cons h t => .cons h (dps_pair t)
theorem any_now {K : PySem.W.Frag} {p : PyData} {v : V} (h : Dp K H v p) (f : flatD p = true) : ∀ {l : List PyData} {vs : List V}, Paired (fun d v => Dp K H v d) l vs → l.all flatD = true → vs.all flatV = true ∧ inV v vs = l.any fun z => PyData.eqv z p
  | [], _, .nil, _ => ⟨rfl, rfl⟩
  | d :: l, _, .cons q t, e => by
    rw [List.all_cons, Bool.and_eq_true] at e
    obtain ⟨e1, e2⟩ := e
    obtain ⟨i1, i2⟩ := any_now h f t e2
    refine ⟨by rw [List.all_cons, flat_now q e1, i1]; rfl, ?_⟩
    unfold inV at i2 ⊢
    rw [List.any_cons, List.any_cons, i2, eqv_now q h e1 f]
theorem str_one {t : Str} {c : Nat} (h : t.cps.toList = [c]) : t = ⟨#[c]⟩ := by
  obtain ⟨⟨l⟩⟩ := t
  have : l = [c] := h
  rw [this]
theorem seq_vl {y : D} {l l' : List PyData} (h : seqP S y = some l) (h' : vList S y = some l') : l = l' := by
  unfold seqP at h
  split at h
  · cases h'
  · rw [h] at h'; exact Option.some.inj h'
theorem in_core {neg : Bool} {x y : D} {vx vy : V} {Q : VK} (rl : Rl (KX X κ) m S H) (rx : RD (KX X κ) m S H x vx) (ry : RD (KX X κ) m S H y vy) (h : Post X κ W m S H σ (RD (KX X κ)) (gIn neg x y S) Q) :
    (∃ (c : Nat) (z : Str), vx = .str ⟨#[c]⟩ ∧ vy = .str z ∧ Q (.bl (neg ^^ decide (c ∈ z.cps.toList))) H) ∨ rIn X.K neg vx vy H Q ∨
      ∃ d ds, Dp X.K H vx d ∧ Dp X.K H vy (.list ds) ∧ SeqAt.shaped d = true ∧ SeqAt.shaped (.list ds) = true ∧ Q (.bl (neg ^^ ds.any fun z => PyData.eqv z d)) H := by
  unfold gIn at h
  split at h
  · split at h
    · rename_i c ec
      exact .inl ⟨c, _, by rw [rx.str, str_one ec], ry.str, h.ok' .refl rl RD.bl_⟩
    · exact h.elim
  · split at h
    · rename_i p l ep el
      have dp := rx.now rl ep
      split at h
      · rename_i hf
        obtain ⟨q, vs, rfl, q1, q2⟩ := ry.seqP rl el
        obtain ⟨i1, i2⟩ := any_now dp hf.1 (dps_pair (RPs.dp _ _ q2)) hf.2
        refine .inr (.inl ⟨q, vs, rfl, q1, flat_now dp hf.1, i1, ?_⟩)
        rw [i2]
        have := h.ok' .refl rl RD.bl_
        cases neg with
        | true => rw [if_pos rfl]; simpa using this
        | false => rw [if_neg Bool.false_ne_true]; simpa using this
      · split at h
        · rename_i hs
          obtain ⟨l', el'⟩ := Option.isSome_iff_exists.mp hs.1
          have := seq_vl el el'
          subst this
          obtain ⟨q, vs, rfl, q1, q2⟩ := ry.vlist rl el'
          exact .inr (.inr ⟨p, l, dp, .lst (.of q1) (RPs.dp _ _ q2), hs.2.1, hs.2.2, h.ok' .refl rl RD.bl_⟩)
        · exact h.elim
    · exact h.elim
theorem od_in (hu : X.A.units + 65 < cLine) : OpD X W (compareOp .In) (gIn false) := by
  refine ⟨_, OpR.or op_in_sign (OpR.or op_in_seq (op_inD hu)), fun κ x y vx vy m S H σ Q rl rx ry h => ?_⟩
  rcases in_core rl rx ry h with ⟨c, z, e1, e2, q⟩ | q | ⟨d, ds, h1, h2, h3, h4, q⟩
  · exact .inl ⟨c, z, e1, e2, by simpa using q⟩
  · exact .inr (.inl q)
  · exact .inr (.inr ⟨d, ds, h1, h2, h3, h4, by simpa using q⟩)
def can (X : Cx) (W : WX) {α β : Type} (R : Kh → List Addr → Sto → Hp → α → β → Prop) (f : Env → Sto → Rs α) : St → Hp → (β → Hp → Prop) → Prop := fun σ H Q =>
  ∃ κ ρ S m, Rl (KX X κ) m S H ∧ RE (KX X κ) m S H ρ σ ∧ Post X κ W m S H σ (R (KX X κ)) (f ρ S) Q
theorem DE.can (h : DE X W e fe) : PE X e (can X W RD fe) := by
  obtain ⟨t, p, i⟩ := h
  exact ⟨fun pins s σ H Q I ⟨κ, ρ, S, m, rl, re, h⟩ => p.run pins s σ H Q I (i κ ρ S σ H m Q rl re h)⟩
theorem DT.can {c : Expr} {f : BD} (h : DT X W c f) : PT X c (can X W RB f) := by
  obtain ⟨t, p, i⟩ := h
  exact ⟨fun pins s σ H Q I ⟨κ, ρ, S, m, rl, re, h⟩ => p.run pins s σ H Q I (i κ ρ S σ H m Q rl re h)⟩
structure DTs (X : Cx) (W : WX) (ifs : List Expr) (f : BD) : Prop where
  run : PTs X ifs (DL.can X W RB f)
def bYes : BD := fun _ S => .ok true S
theorem dts_nil : DTs X W [] bYes := ⟨⟨fun pins s σ H Q I ⟨κ, ρ, S, m, rl, re, h⟩ => pts_nil.run pins s σ H Q I (h.ok' .refl rl rfl)⟩⟩
def canG (X : Cx) (vs : List Nat) (g : GD) : TG := fun v σ H Q => ∃ κ d ρ S m, Rl (KX X κ) m S H ∧ RE (KX X κ) m S H ρ σ ∧ RD (KX X κ) m S H d v ∧
  (match g d ρ S with
  | .ok ρ' S' => ∀ σ' H' m', Nx (KX X κ) m S H m' S' H' → Rl (KX X κ) m' S' H' → RE (KX X κ) m' S' H' ρ' σ' → wipe σ' vs = wipe σ vs → Q σ' H'
  | _ => False)
structure DGw (X : Cx) (tg : Expr) (vs : List Nat) (g : GD) : Prop where
  run : PG X tg (canG X vs g)
theorem wipe_set {σ : St} {i : Nat} {x : Option V} : ∀ {vs : List Nat}, i ∈ vs → wipe (σ.set i x) vs = wipe σ vs
  | v :: vs, h => by
    unfold wipe
    by_cases hv : i ∈ vs
    · rw [wipe_set hv]
    · have e : i = v := (List.mem_cons.mp h).resolve_right hv
      subst e
      clear h
      have key : ∀ vs : List Nat, i ∉ vs → wipe (σ.set i x) vs = (wipe σ vs).set i x := by
        intro vs
        induction vs with
        | nil => intro _; rfl
        | cons u us ih =>
          intro hn
          unfold wipe
          rw [ih fun z => hn (List.mem_cons_of_mem _ z)]
          rw [List.set_comm _ _ (fun z => hn (by rw [z]; exact List.mem_cons_self))]
      rw [key vs hv, List.set_set]
theorem dgw_name {i : Nat} {x : Str} {vs : List Nat} (hN : X.N.Nodup) (hi : X.N[i]? = some x) (hx : Loc X.env.scope x) (hv : i ∈ vs) (hf : X.fn x = true ∨ X.env.scope.names.lookup x = some .local := by first | exact .inl rfl | exact .inr rfl | assumption) : DGw X (.Name x pos) vs (gNm i) :=
  ⟨⟨fun pins s σ H v u Q I r ⟨κ, d, ρ, S, m, rl, re, rd, h⟩ => (pg_name hN hi hx hf).run pins s σ H v u Q I r (h _ H m .refl rl (pairSet re fun d' e => ⟨v, rfl, by cases e; exact rd⟩) (wipe_set hv))⟩⟩
theorem wipe_wipe (σ : St) {vs : List Nat} : ∀ us : List Nat, (∀ u ∈ us, u ∈ vs) → wipe (wipe σ us) vs = wipe σ vs
  | [], _ => rfl
  | u :: us, h => by
    show wipe ((wipe σ us).set u none) vs = _
    rw [wipe_set (h u List.mem_cons_self), wipe_wipe σ us fun v hv => h v (List.mem_cons_of_mem _ hv)]
def wipeE (ρ : Env) : List Nat → Env
  | [] => ρ
  | v :: vs => (wipeE ρ vs).set v none
theorem RE.wipe {ρ : Env} {σ : St} (re : RE (KX X κ) m S H ρ σ) : ∀ vs : List Nat, RE (KX X κ) m S H (wipeE ρ vs) (L2.wipe σ vs)
  | [] => re
  | v :: vs => pairSet (RE.wipe re vs) fun d e => by cases e
open Classical in
noncomputable def lcL (g : GD) (c : BD) (f : ED) (chk : Sto → Prop) (ρ : Env) : List D → List PyData → Sto → Option (List PyData × Sto)
  | [], acc, S => some (acc, S)
  | d :: ds, acc, S => match g d ρ S with
    | .ok ρ1 S1 => (match c ρ1 S1 with
      | .ok true S2 => (match f ρ1 S2 with
        | .ok y S3 => (match restD y S3 with
          | some (p, S4) => if acc.length < sizeLine ∧ chk S4 then lcL g c f chk ρ ds (acc ++ [p]) S4 else none
          | none => none)
        | _ => none)
      | .ok false S2 => if chk S2 then lcL g c f chk ρ ds acc S2 else none
      | _ => none)
    | _ => none
def okL (r : Option (List PyData × Sto)) : Rs D := match r with
  | some (l, S) => .ok (.lst l) S
  | none => .st
noncomputable def eLc (i : Env → Sto → Rs IDt) (g : GD) (c : BD) (f : ED) (vs : List Nat) : ED := fun ρ S => (i ρ S).bind fun d S1 => okL (lcL g c f d.2 (wipeE ρ vs) d.1 [] S1)
theorem imp_lc {wi : TI} {fi : Env → Sto → Rs IDt} {g : GD} {c : BD} {f : ED} {vs : List Nat} (ii : Imp X W (fun K m S H (d : IDt) (J : It) => ItOk K m S H J d.1 d.2) wi fi) :
    Imp X W RD (tLc wi (canG X vs g) (can X (fun _ _ _ _ => False) RB c) (can X (fun _ _ _ _ => False) RD f) vs) (eLc fi g c f vs) := by
  intro κ ρ S σ H m Q rl re h
  refine ii.seq rl re h fun d S1 J H1 m1 x1 rl1 re1 iok h1 => ?_
  obtain ⟨ds, chk⟩ := d
  have iok : ItOk (KX X κ) m1 S1 H1 J ds chk := iok
  intro L hL
  have hnk : ¬ κ L := fun z => by
    obtain ⟨u, e, _⟩ := (rl1.hid L z).2
    rw [hL] at e; cases e
  let κ' : Addr → Prop := fun a => κ a ∨ a = L
  have hsub : ∀ a, κ' a → κ a ∨ H1 a = none := fun a z => z.elim .inl fun z => .inr (by rw [z]; exact hL)
  have hL' : κ' L := .inr rfl
  -- the state between two turns
  let St' : Nat → Hp → Prop := fun i H2 => ∃ S2 m2 acc ws, Nx (KX X κ) m1 S1 H1 m2 S2 H2 ∧ Rl (KX X κ') m2 S2 H2 ∧ chk S2 ∧ H2 L = some (.lst ws) ∧ RPs (KX X κ') H2 (lv (KX X κ') m2 S2) acc ws ∧
    Post X κ W m1 S1 H1 σ (RD (KX X κ)) (okL (lcL g c f chk (wipeE ρ vs) (ds.drop i) acc S2)) Q
  refine ⟨fun i n H2 => n = ds.length - i ∧ i ≤ ds.length ∧ St' i H2, ⟨ds.length, by simp, Nat.zero_le _, S1, m1, [], [], Nx.new rl1 hL, rl1.hide hL trivial, iok.here, upd_same, by rw [RPs], h1⟩, ?_⟩
  rintro i n H2 ⟨rfl, hi, S2, m2, acc, ws, x2, rl2, ck, eL, racc, h2⟩
  by_cases hlt : i < ds.length
  · have ed : ds.drop i = ds[i] :: ds.drop (i + 1) := List.drop_eq_getElem_cons hlt
    rw [ed] at h2
    obtain ⟨hgo, hy⟩ := iok.go κ' m2 S2 H2 i ds[i] hsub x2 rl2 ck (List.getElem?_eq_getElem hlt)
    refine .inr ⟨hgo, fun H' => i + 1 ≤ ds.length ∧ St' (i + 1) H', fun H' z => ⟨ds.length - (i + 1), by omega, rfl, z.1, z.2⟩, fun x H'' y => ?_⟩
    obtain ⟨x3, rl3, r3⟩ := hy x H'' y
    have re3 : RE (KX X κ') m2 S2 H'' (wipeE ρ vs) (L2.wipe σ vs) := (RE.nxh (K := KX X κ) x2 hsub (RE.wipe re1 vs)).nx x3
    unfold lcL at h2
    refine ⟨κ', ds[i], wipeE ρ vs, S2, m2, rl3, re3, r3, ?_⟩
    cases e1 : g ds[i] (wipeE ρ vs) S2 with
    | st => simp only [e1] at h2; exact h2.elim
    | ex _ _ => simp only [e1] at h2; exact h2.elim
    | ok ρ4 S4 =>
      simp only [e1] at h2
      intro σ4 H4 m4 x4 rl4 re4 wp
      refine ⟨wp.trans (wipe_wipe σ vs (fun _ z => z)), κ', ρ4, S4, m4, rl4, re4, ?_⟩
      cases e2 : c ρ4 S4 with
      | st => simp only [e2] at h2; exact h2.elim
      | ex _ _ => simp only [e2] at h2; exact h2.elim
      | ok b S5 =>
        intro b' H5 m5 x5 rl5 eb
        have eb : b = b' := eb
        subst eb
        have x25 := x3.trans (x4.trans x5)
        cases b with
        | true =>
          simp only [e2] at h2
          rw [if_pos rfl]
          refine ⟨κ', ρ4, S5, m5, rl5, re4.nx x5, ?_⟩
          cases e3 : f ρ4 S5 with
          | st => simp only [e3] at h2; exact h2.elim
          | ex _ _ => simp only [e3] at h2; exact h2.elim
          | ok y5 S6 =>
            simp only [e3] at h2
            intro v6 H6 m6 x6 rl6 r6
            cases e4 : restD y5 S6 with
            | none => simp only [e4] at h2; exact h2.elim
            | some pr =>
              obtain ⟨p, S7⟩ := pr
              simp only [e4] at h2
              by_cases hk : acc.length < sizeLine ∧ chk S7
              · rw [if_pos hk] at h2
                obtain ⟨rl7, x7, r7⟩ := r6.restD rl6 e4
                have x27 := x25.trans (x6.trans x7)
                have eL6 : H6 L = some (.lst ws) := (x27.hid L hL').trans eL
                have ra6 := racc.nx x27
                refine ⟨ws, eL6, by rw [← RPs_len ra6]; exact hk.1, hlt, S7, m6, acc ++ [p], ws ++ [v6], ?_, rl7.hidw hL' trivial, hk.2, upd_same, ?_, h2⟩
                · exact Nx.hidw (x2.hidden (h' := κ') x27 (fun a z => .inl z) hsub) hL ⟨_, eL6, trivial⟩ hnk
                · have hm := hid_upd_lst (o := .lst (ws ++ [v6])) rl7 hL'
                  have ht : ∀ a us, H6 a = some (.tup us) → (upd H6 L (.lst (ws ++ [v6]))) a = some (.tup us) := fun a us h => sqT_upd h (.inr ⟨_, eL6, trivial⟩)
                  exact RPs.mono (K := KX X κ') ht hm _ _ (RPs_app ra6 (RPs_iff.mpr (.cons r7 .nil)))
              · rw [if_neg hk] at h2; exact h2.elim
        | false =>
          simp only [e2] at h2
          rw [if_neg Bool.false_ne_true]
          by_cases hk : chk S5
          · rw [if_pos hk] at h2
            refine ⟨hlt, S5, m5, acc, ws, x2.hidden (h' := κ') x25 (fun a z => .inl z) hsub, rl5, hk, (x25.hid L hL').trans eL, racc.nx x25, h2⟩
          · rw [if_neg hk] at h2; exact h2.elim
  · have e0 : ds.drop i = [] := List.drop_eq_nil_of_le (Nat.le_of_not_lt hlt)
    rw [e0] at h2
    refine .inl ⟨iok.stop κ' m2 S2 H2 i hsub x2 rl2 ck (Nat.le_of_not_lt hlt), ?_⟩
    refine h2 (.ref L) H2 m2 x2 (Rl.unh (K := KX X κ') (h' := κ) (fun a z => .inl z) rl2) ?_
    show RP _ _ _ _ _
    rw [RP]
    refine ⟨L, ws, rfl, eL, ?_, ?_⟩
    · rintro (z | ⟨k, o, z1, z2, z3⟩)
      · exact hnk z
      · exact (rl2.hid L hL').1 (List.mem_of_getElem? z1)
    · have := RDs_p.mpr racc
      exact RDs_p.mp (pairMono (fun _ _ => RD.unh (K := KX X κ') (h' := κ) (fun a z => .inl z)) this)
section
variable {elt tg iter : Expr} {ifs : List Expr} {scope : Scope} {own : List (Str × Nat)} {fi : Env → Sto → Rs IDt} {g : GD} {c : BD} {f : ED}
theorem de_lc (hc : X.calm = true) (hN : X.N.Nodup) (hi : DI X W tg iter fi) (ok : BlkOk X.N X.env.scope scope own)
    (hg : ∀ (s : Shared) (H : Hp) (C : Addr) (cl : List (Str × Addr)) (fp : List Addr), DGw (X.blk s H scope (compEnvC scope cl C X.env) fp) tg (own.map fun x => x.2) g)
    (ht : ∀ (s : Shared) (H : Hp) (C : Addr) (cl : List (Str × Addr)) (fp : List Addr), DTs (X.blk s H scope (compEnvC scope cl C X.env) fp) (fun _ _ _ _ => False) ifs c)
    (he : ∀ (s : Shared) (H : Hp) (C : Addr) (cl : List (Str × Addr)) (fp : List Addr), DE (X.blk s H scope (compEnvC scope cl C X.env) fp) (fun _ _ _ _ => False) elt f)
    (hs : ∀ x, foldedSetIterable iter X.env x = pure x := by intro _; rfl) : DE X W (.ListComp elt [⟨tg, iter, ifs, 0⟩] scope pos) (eLc fi g c f (own.map fun x => x.2)) := by
  obtain ⟨wi, pi, ii⟩ := hi
  exact ⟨_, @pe_lc X elt tg iter ifs scope own pos wi (canG X (List.map (fun (x : Str × Nat) => x.2) own) g) (can X (fun _ _ _ _ => False) RB c) (can X (fun _ _ _ _ => False) RD f) hc hN pi ok (fun s H C cl fp => (hg s H C cl fp).run) (fun s H C cl fp => (ht s H C cl fp).run) (fun s H C cl fp => (he s H C cl fp).can) hs, imp_lc ii⟩
end
end
end DL
namespace DL
open PySem PySem.Spec PyProof.Rows L2
section
variable {X : Cx} {W : WX} {e : Expr} {pos : Pos} {fe : ED} {es : List Expr} {ga : AD}
theorem dv (i : Nat) {x : Str} {pos : Pos} (hN : X.N[i]? = some x := by rfl) (hv : Vis X.env.scope x := by first | exact Or.inl rfl | exact Or.inr (Or.inl rfl) | exact Or.inr (Or.inr rfl)) (hd : (x == ("__debug__" : Str)) = false := by decide)
    (hcd : (x == ("__classdict__" : Str)) = false := by decide) : DE X W (.Name x pos) (eVar i) := de_var hN hv hd hcd
theorem de_globI {x : Str} {i : Int} (hg : Gl X x) (hm : ∃ t, X.mg x = some (.int i t)) (hd : (x == ("__debug__" : Str)) = false := by decide) : DE X W (.Name x pos) (eC (.int i)) := by
  obtain ⟨t, hm⟩ := hm
  refine ⟨tC (.int i), pe_glob hg hm ⟨t, rfl⟩ hd, fun κ ρ S σ H m Q rl re h => h.ok' .refl rl RD.int_⟩
theorem dset (i : Nat) {x : Str} {pos' : Pos} (hN : X.N.Nodup) (he : DE X W e fe) (hi : X.N[i]? = some x := by rfl) (hx : Loc X.env.scope x := by first | exact Or.inl rfl | exact Or.inr rfl) (hs : swapsWith e (some (.Name x pos')) pos.line X.env = pure false := by rfl)
    (hf : X.fn x = true ∨ X.env.scope.names.lookup x = some .local := by first | exact .inl rfl | exact .inr rfl) : DS X W (.Assign [.Name x pos'] e pos) (sSet i fe) := ds_set hN hi hx he hs hf
theorem daug (i : Nat) {x : Str} {op : Operator} {pos' : Pos} {g : D → D → Sto → Rs D} (hN : X.N.Nodup) (he : DE X W e fe) (ho : OpD X W (inplaceOp op) g) (hi : X.N[i]? = some x := by rfl) (hx : Loc X.env.scope x := by first | exact Or.inl rfl | exact Or.inr rfl)
    (hf : X.fn x = true ∨ X.env.scope.names.lookup x = some .local := by first | exact .inl rfl | exact .inr rfl) : DS X W (.AugAssign (.Name x pos') op e pos) (sAug i fe g) := ds_aug hN hi hx he ho hf
theorem dgn (i : Nat) {x : Str} (hN : X.N.Nodup) (hi : X.N[i]? = some x := by rfl) (hx : Loc X.env.scope x := by first | exact Or.inl rfl | exact Or.inr rfl) (hf : X.fn x = true ∨ X.env.scope.names.lookup x = some .local := by first | exact .inl rfl | exact .inr rfl) : DG X W (.Name x pos) (gNm i) := dg_name hN hi hx hf
theorem dgw (i : Nat) {x : Str} {vs : List Nat} (hN : X.N.Nodup) (hv : i ∈ vs) (hi : X.N[i]? = some x := by rfl) (hx : Loc X.env.scope x := by first | exact Or.inl rfl | exact Or.inr rfl) (hf : X.fn x = true ∨ X.env.scope.names.lookup x = some .local := by first | exact .inl rfl | exact .inr rfl) : DGw X (.Name x pos) vs (gNm i) := dgw_name hN hi hx hv hf
end
end DL
namespace DL
open PySem PySem.Spec PyProof.Rows L2
section
variable {ρ : Env} {S : Sto} {f g h : ED} {ga : AD} {x y : D} {i j : Int} {k n : Nat} {b c : BD} {d e : PyData} {l l' : List PyData} {ds : List D} {s t : SD}
def oRs {α : Type} (o : Option α) (S : Sto) : Rs α := match o with
  | some a => .ok a S
  | none => .st
@[simp] theorem oRs_some {α : Type} (a : α) (S : Sto) : oRs (some a) S = .ok a S := rfl
@[simp] theorem oRs_none {α : Type} (S : Sto) : oRs (none : Option α) S = .st := rfl
@[simp] theorem Rs.bind_st {α β : Type} (f : α → Sto → Rs β) : Rs.bind .st f = .st := rfl
@[simp] theorem liftS_st {α : Type} (ρ : Env) (k : α → Sto → Out) : liftS ρ .st k = .st := rfl
@[simp] theorem liftS_ex {α : Type} (ρ : Env) (x : Xc) (S : Sto) (k : α → Sto → Out) : liftS ρ (.ex x S) k = .ex x ρ S := rfl
@[simp] theorem Rs.bind_ex {α β : Type} (x : Xc) (S : Sto) (f : α → Sto → Rs β) : Rs.bind (.ex x S) f = .ex x S := rfl
@[simp] theorem eVar_ap : eVar k ρ S = oRs (ρ[k]?.join) S := by
  unfold eVar
  cases h : ρ[k]? with
  | none => rfl
  | some o => cases o <;> rfl
@[simp] theorem eC_ap : eC d ρ S = .ok (.p d) S := rfl
@[simp] theorem eBin_ap {o : D → D → Sto → Rs D} : eBin o f g ρ S = (f ρ S).bind fun x S1 => (g ρ S1).bind fun y S2 => o x y S2 := rfl
def isB : D → Option Bool
  | .p (.bool b) => some b
  | _ => none
@[simp] theorem isB_bl {b : Bool} : isB (.p (.bool b)) = some b := rfl
@[simp] theorem asB_ap : asB f ρ S = (f ρ S).bind fun x S1 => oRs (isB x) S1 := by
  unfold asB
  congr 1
  funext x S1
  cases x with
  | p d => cases d <;> rfl
  | ob _ => rfl
  | scr _ => rfl
  | xc _ _ _ => rfl
@[simp] theorem eChain_ap {o o' : D → D → Sto → Rs D} : eChain o o' f g h ρ S = (f ρ S).bind fun x S1 => (g ρ S1).bind fun y S2 => (o x y S2).bind fun z S3 => match z with
  | .p (.bool true) => (h ρ S3).bind fun w S4 => o' y w S4
  | .p (.bool false) => .ok (.bl false) S3
  | _ => .st := rfl
@[simp] theorem bAnd_ap : bAnd b c ρ S = (b ρ S).bind fun x S1 => if x = true then c ρ S1 else .ok false S1 := rfl
@[simp] theorem bOr_ap : bOr b c ρ S = (b ρ S).bind fun x S1 => if x = true then .ok true S1 else c ρ S1 := rfl
@[simp] theorem bNot_ap : bNot b ρ S = (b ρ S).bind fun x S1 => .ok (!x) S1 := rfl
@[simp] theorem bTru_ap : bTru f ρ S = (f ρ S).bind fun x S1 => oRs (truD S1 x) S1 := by
  unfold bTru
  congr 1
  funext x S1
  cases truD S1 x <;> rfl
@[simp] theorem eAnd_ap : eAnd f g ρ S = (f ρ S).bind fun x S1 => match x with
  | .p (.bool true) => g ρ S1
  | .p (.bool false) => .ok (.bl false) S1
  | _ => .st := rfl
@[simp] theorem eOr_ap : eOr f g ρ S = (f ρ S).bind fun x S1 => match x with
  | .p (.bool false) => g ρ S1
  | .p (.bool true) => .ok (.bl true) S1
  | _ => .st := rfl
@[simp] theorem eNot_ap : eNot f ρ S = (f ρ S).bind fun x S1 => match x with
  | .p (.bool b) => .ok (.bl (!b)) S1
  | _ => .st := rfl
@[simp] theorem eNeg_ap : eNeg f ρ S = (f ρ S).bind fun x S1 => match x with
  | .p (.int i) => .ok (.int (-i)) S1
  | _ => .st := rfl
@[simp] theorem eIf_ap : eIf b f g ρ S = (b ρ S).bind fun x S1 => if x = true then f ρ S1 else g ρ S1 := rfl
@[simp] theorem aNil_ap : aNil ρ S = .ok [] S := rfl
@[simp] theorem aCons_ap : aCons f ga ρ S = (f ρ S).bind fun x S1 => (ga ρ S1).bind fun xs S2 => .ok (x :: xs) S2 := rfl
@[simp] theorem eTup_ap : eTup ga ρ S = (ga ρ S).bind fun ds S1 => match restAll ds S1 with
  | some (l, S2) => if l.length ≤ sizeLine then .ok (.tup l) S2 else .st
  | none => .st := rfl
@[simp] theorem eLst_ap : eLst ga ρ S = (ga ρ S).bind fun ds S1 => match restAll ds S1 with
  | some (l, S2) => if l.length ≤ sizeLine then .ok (.lst l) S2 else .st
  | none => .st := rfl
@[simp] theorem eLstO_ap : eLstO ga ρ S = (ga ρ S).bind fun ds S1 => if ds.length ≤ sizeLine then .ok (.ob S1.length) (S1 ++ [.lst ds]) else .st := rfl
@[simp] theorem eB_ap {o : FD} : eB o ga ρ S = (ga ρ S).bind fun ds S1 => o ds S1 := rfl
@[simp] theorem eCall_ap {o : FD} : eCall n o ga ρ S = (ga ρ S).bind fun ds S1 => if ds.length = n then noEx (o ds S1) else .st := rfl
@[simp] theorem eMth_ap {o : D → FD} : eMth o f ga ρ S = (f ρ S).bind fun d S1 => if isLst S1 d = true then (ga ρ S1).bind fun ds S2 => o d ds S2 else .st := rfl
@[simp] theorem eIsi_ap {T : String} : eIsi T f ρ S = (f ρ S).bind fun d S1 => match tyD S1 d with
  | some t => (match kitB t T with | some b => .ok (.bl b) S1 | none => .st)
  | none => .st := rfl
@[simp] theorem eSl_ap {lo hi : Env → Sto → Rs (Option Int)} : eSl f lo hi ρ S = (f ρ S).bind fun x S1 => (lo ρ S1).bind fun lo S2 => (hi ρ S2).bind fun hi S3 => gSl x lo hi S3 := rfl
@[simp] theorem oNone_ap : oNone ρ S = .ok none S := rfl
@[simp] theorem oSome_ap : oSome f ρ S = (f ρ S).bind fun x S1 => match x with
  | .p (.int i) => .ok (some i) S1
  | _ => .st := rfl
@[simp] theorem eLc_ap {fi : Env → Sto → Rs IDt} {gt : GD} {vs : List Nat} : eLc fi gt b f vs ρ S = (fi ρ S).bind fun d S1 => okL (lcL gt b f d.2 (wipeE ρ vs) d.1 [] S1) := rfl
@[simp] theorem okL_some : okL (some (l, S)) = .ok (.lst l) S := rfl
def seqO (o : Out) (t : SD) : Out := match o with
  | .nx ρ1 S1 => t ρ1 S1
  | o => o
@[simp] theorem seqO_nx : seqO (.nx ρ S) t = t ρ S := rfl
@[simp] theorem seqO_rt : seqO (.rt x S) t = .rt x S := rfl
@[simp] theorem seqO_bk : seqO (.bk ρ S) t = .bk ρ S := rfl
@[simp] theorem seqO_ct : seqO (.ct ρ S) t = .ct ρ S := rfl
@[simp] theorem seqO_ex {x : Xc} : seqO (.ex x ρ S) t = .ex x ρ S := rfl
@[simp] theorem sSeq_ap : sSeq s t ρ S = seqO (s ρ S) t := rfl
@[simp] theorem sNil_ap : sNil ρ S = .nx ρ S := rfl
@[simp] theorem sBrk_ap : sBrk ρ S = .bk ρ S := rfl
@[simp] theorem sCnt_ap : sCnt ρ S = .ct ρ S := rfl
@[simp] theorem sExpr_ap : sExpr f ρ S = liftS ρ (f ρ S) fun _ S1 => .nx ρ S1 := rfl
def rtO (o : Option (PyData × Sto)) : Out := match o with
  | some (p, S2) => .rt (.p p) S2
  | none => .st
@[simp] theorem rtO_some : rtO (some (d, S)) = .rt (.p d) S := rfl
@[simp] theorem sRetR_ap : sRetR f ρ S = liftS ρ (f ρ S) fun d S1 => rtO (restD d S1) := rfl
@[simp] theorem sRetN_ap : sRetN ρ S = .rt .non S := rfl
@[simp] theorem sIf_ap : sIf b s t ρ S = liftS ρ (b ρ S) fun b S1 => if b = true then s ρ S1 else t ρ S1 := rfl
@[simp] theorem sSet_ap : sSet k f ρ S = liftS ρ (f ρ S) fun d S1 => .nx (ρ.set k (some d)) S1 := rfl
def nxG (r : Rs Env) : Out := match r with
  | .ok ρ1 S2 => .nx ρ1 S2
  | _ => .st
@[simp] theorem nxG_ok : nxG (.ok ρ S) = .nx ρ S := rfl
@[simp] theorem sAsg_ap {gt : GD} : sAsg f gt ρ S = liftS ρ (f ρ S) fun d S1 => nxG (gt d ρ S1) := by
  unfold sAsg
  congr 1
@[simp] theorem sAug_ap {o : D → D → Sto → Rs D} : sAug k f o ρ S = liftS ρ (oRs (ρ[k]?.join) S) fun x _ => liftS ρ (f ρ S) fun y S1 => liftS ρ (o x y S1) fun z S2 => .nx (ρ.set k (some z)) S2 := by
  unfold sAug
  cases h : ρ[k]? with
  | none => rfl
  | some o => cases o <;> rfl
@[simp] theorem gNm_ap : gNm k x ρ S = .ok (ρ.set k (some x)) S := rfl
@[simp] theorem sFor_ap {fi : Env → Sto → Rs IDt} {gt : GD} : sFor fi gt s ρ S = liftS ρ (fi ρ S) fun d S1 => forL gt s d.2 d.1 ρ S1 := rfl
@[simp] theorem iRgA_ap : iRgA ga ρ S = (ga ρ S).bind fun ds S1 => match ds with
  | [.p (.int j)] => if big62 j = true then .ok (rngL 0 j.toNat, (fun _ => True : Sto → Prop)) S1 else .st
  | _ => .st := rfl
@[simp] theorem iRgB_ap : iRgB ga ρ S = (ga ρ S).bind fun ds S1 => match ds with
  | [.p (.int i), .p (.int j)] => if big62 i = true ∧ big62 j = true then .ok (rngL i (j - i).toNat, (fun _ => True : Sto → Prop)) S1 else .st
  | _ => .st := rfl
@[simp] theorem iTpl_ap : iTpl f ρ S = (f ρ S).bind fun d S1 => match d with
  | .p (.tuple l) => .ok (l.map .p, (fun _ => True : Sto → Prop)) S1
  | _ => .st := rfl
@[simp] theorem iLst_ap : iLst f ρ S = (f ρ S).bind fun d S1 => match lItems S1 d with
  | some l => .ok (l, chkOf d l) S1
  | none => .st := rfl
@[simp] theorem restD_p' : restD (.p d) S = some (d, S) := rfl
@[simp] theorem restAll_nil : restAll [] S = some ([], S) := rfl
@[simp] theorem restAll_cons : restAll (x :: ds) S = (restD x S).bind fun r => (restAll ds r.2).map fun q => (r.1 :: q.1, q.2) := by
  rw [restAll]
  cases h : restD x S <;> rfl
@[simp] theorem gAdd_int : gAdd (.p (.int i)) (.p (.int j)) S = .ok (.int (i + j)) S := rfl
@[simp] theorem gAdd_str {a b : Str} : gAdd (.p (.str a)) (.p (.str b)) S = if a.length + b.length ≤ sizeLine then .ok (.str (a ++ b)) S else .st := rfl
@[simp] theorem gAdd_tup : gAdd (.p (.tuple l)) (.p (.tuple l')) S = if l.length + l'.length ≤ sizeLine then .ok (.tup (l ++ l')) S else .st := rfl
@[simp] theorem gAdd_lst : gAdd (.p (.list l)) (.p (.list l')) S = if l.length + l'.length ≤ sizeLine then .ok (.lst (l ++ l')) S else .st := rfl
@[simp] theorem gAddI_int : gAddI (.p (.int i)) (.p (.int j)) S = .ok (.int (i + j)) S := rfl
@[simp] theorem gSub_int : gSub (.p (.int i)) (.p (.int j)) S = .ok (.int (i - j)) S := rfl
@[simp] theorem gMul_int : gMul (.p (.int i)) (.p (.int j)) S = if i.natAbs < 2 ^ 64 ∨ j.natAbs < 2 ^ 64 then .ok (.int (i * j)) S else .st := by
  simp [gMul, gInt]
@[simp] theorem gMod_int : gMod (.p (.int i)) (.p (.int j)) S = if 0 < j then .ok (.int (i % j)) S else .st := by simp [gMod, gInt]
@[simp] theorem gFdv_int : gFdv (.p (.int i)) (.p (.int j)) S = if 0 < j ∧ j < 1073741824 then .ok (.int (i / j)) S else .st := by simp [gFdv, gInt]
@[simp] theorem gPow_int : gPow (.p (.int i)) (.p (.int j)) S = if 0 ≤ j ∧ j ≤ 1000000 ∧ i.natAbs < 2 ^ 64 then .ok (.int (i ^ j.toNat)) S else .st := by simp [gPow, gInt]
@[simp] theorem gLt_int : gLt (.p (.int i)) (.p (.int j)) S = .ok (.bl (decide (i < j))) S := rfl
@[simp] theorem gLe_int : gLe (.p (.int i)) (.p (.int j)) S = .ok (.bl (decide (i ≤ j))) S := rfl
@[simp] theorem gGt_int : gGt (.p (.int i)) (.p (.int j)) S = .ok (.bl (decide (j < i))) S := rfl
@[simp] theorem gGe_int : gGe (.p (.int i)) (.p (.int j)) S = .ok (.bl (decide (j ≤ i))) S := rfl
theorem gEq_pp {neg : Bool} : gEq neg (.p d) (.p e) S = if scalD d e = true then .ok (.bl (neg ^^ PyData.eqv d e)) S else if SeqAt.shaped d = true ∧ SeqAt.shaped e = true then .ok (.bl (neg ^^ PyData.eqv d e)) S else .st := rfl
@[simp] theorem gEq_int {neg : Bool} : gEq neg (.p (.int i)) (.p (.int j)) S = .ok (.bl (neg ^^ (i == j))) S := by rw [gEq_pp]; rfl
@[simp] theorem gEq_str {neg : Bool} {a b : Str} : gEq neg (.p (.str a)) (.p (.str b)) S = .ok (.bl (neg ^^ (a == b))) S := by rw [gEq_pp]; rfl
@[simp] theorem gEq_bl {neg a b : Bool} : gEq neg (.p (.bool a)) (.p (.bool b)) S = .ok (.bl (neg ^^ (a == b))) S := by rw [gEq_pp]; rfl
@[simp] theorem atI_nat' {α : Type} (l : List α) (k : Nat) : atI l (k : Int) = l[k]? := by
  unfold atI ixN
  rw [if_pos (by omega)]
  by_cases h : (k : Int) < (l.length : Int)
  · rw [if_pos h]; simp
  · rw [if_neg h, List.getElem?_eq_none (by omega)]; rfl
@[simp] theorem atI_0 {α : Type} (l : List α) : atI l 0 = l[0]? := atI_nat' l 0
@[simp] theorem atI_1 {α : Type} (l : List α) : atI l 1 = l[1]? := atI_nat' l 1
@[simp] theorem atI_2 {α : Type} (l : List α) : atI l 2 = l[2]? := atI_nat' l 2
@[simp] theorem atI_3 {α : Type} (l : List α) : atI l 3 = l[3]? := atI_nat' l 3
@[simp] theorem atI_4 {α : Type} (l : List α) : atI l 4 = l[4]? := atI_nat' l 4
@[simp] theorem atI_5 {α : Type} (l : List α) : atI l 5 = l[5]? := atI_nat' l 5
@[simp] theorem gIx_tup : gIx (.p (.tuple l)) (.p (.int i)) S = oRs ((atI l i).map .p) S := by
  unfold gIx
  dsimp only
  cases atI l i <;> rfl
@[simp] theorem gIx_lst : gIx (.p (.list l)) (.p (.int i)) S = oRs ((atI l i).map .p) S := by
  unfold gIx
  simp only [lItems, atI_map]
  cases atI l i <;> rfl
@[simp] theorem gIx_scr {ns : List Int} : gIx (.scr ns) (.p (.int i)) S = oRs ((atI ns i).map .int) S := by
  unfold gIx
  simp only [lItems, atI_map]
  cases atI ns i <;> rfl
@[simp] theorem gIx_str {z : Str} : gIx (.p (.str z)) (.p (.int i)) S = if z.length ≤ sizeLine then oRs ((atI z.cps.toList i).map fun c => .str ⟨#[c]⟩) S else .st := by
  unfold gIx
  dsimp only
  split
  · cases atI z.cps.toList i <;> rfl
  · rfl
def obL (o : Option O) : Option (List D) := match o with
  | some (.lst l) => some l
  | some (.fz l) => some (l.map .p)
  | _ => none
@[simp] theorem obL_lst : obL (some (.lst ds)) = some ds := rfl
@[simp] theorem obL_fz : obL (some (.fz l)) = some (l.map .p) := rfl
theorem lItems_ob : lItems S (.ob n) = obL S[n]? := by
  unfold lItems obL
  rfl
@[simp] theorem gIx_ob : gIx (.ob n) (.p (.int i)) S = oRs ((obL S[n]?).bind fun l => atI l i) S := by
  unfold gIx
  dsimp only
  rw [lItems_ob]
  cases obL S[n]? with
  | none => rfl
  | some l => simp only [Option.bind_some]; cases atI l i <;> rfl
@[simp] theorem gLen_tup : gLen [.p (.tuple l)] S = .ok (.int l.length) S := rfl
@[simp] theorem gLen_lst : gLen [.p (.list l)] S = .ok (.int l.length) S := by
  unfold gLen
  simp [lItems]
@[simp] theorem gLen_scr {ns : List Int} : gLen [.scr ns] S = .ok (.int ns.length) S := by
  unfold gLen
  simp [lItems]
@[simp] theorem gLen_ob : gLen [.ob n] S = oRs ((obL S[n]?).map fun l => .int (l.length : Nat)) S := by
  unfold gLen
  simp only [lItems_ob]
  cases obL S[n]? <;> rfl
@[simp] theorem gLen_str {z : Str} : gLen [.p (.str z)] S = if z.length ≤ sizeLine then .ok (.int z.length) S else .st := rfl
@[simp] theorem gToInt_int : gToInt [.p (.int i)] S = .ok (.int i) S := rfl
@[simp] theorem gToInt_bl {b : Bool} : gToInt [.p (.bool b)] S = .ok (.int (if b then 1 else 0)) S := rfl
@[simp] theorem gToStr_int : gToStr [.p (.int i)] S = if i.natAbs.log2 < 1920 then .ok (.str (toString i)) S else .st := rfl
@[simp] theorem truD_bl {b : Bool} : truD S (.p (.bool b)) = some b := rfl
@[simp] theorem gMin2_int : gMin2 [.p (.int i), .p (.int j)] S = .ok (.int (if j < i then j else i)) S := rfl
@[simp] theorem gMax2_int : gMax2 [.p (.int i), .p (.int j)] S = .ok (.int (if j > i then j else i)) S := rfl
@[simp] theorem isLst_ob : isLst S (.ob n) = (obL S[n]?).isSome := by
  show (match S[n]? with | some (.lst _) => true | some (.fz _) => true | _ => false) = _
  cases S[n]? with
  | none => rfl
  | some o => cases o <;> rfl
@[simp] theorem isLst_lst : isLst S (.p (.list l)) = true := rfl
def obO (o : Option O) : Option (List D) := match o with
  | some (.lst l) => some l
  | _ => none
@[simp] theorem obO_lst : obO (some (.lst ds)) = some ds := rfl
@[simp] theorem oLst_ob : oLst S (.ob n) = (obO S[n]?).map fun l => (n, l) := by
  unfold obO
  show (match S[n]? with | some (.lst l) => some (n, l) | _ => none) = _
  cases S[n]? with
  | none => rfl
  | some o => cases o <;> rfl
def appO (d : PyData) (S : Sto) (o : Option (Nat × List D)) : Rs D := match o with
  | some (n, l) => if l.length < sizeLine then .ok .non (S.set n (.lst (l ++ [.p d]))) else .st
  | none => .st
@[simp] theorem appO_some : appO d S (some (n, ds)) = if ds.length < sizeLine then .ok .non (S.set n (.lst (ds ++ [.p d]))) else .st := rfl
@[simp] theorem gApp_ap : gApp x [D.p d] S = appO d S (oLst S x) := by
  show (match oLst S x with | some (n, l) => if l.length < sizeLine then Rs.ok D.non (S.set n (.lst (l ++ [D.p d]))) else Rs.st | none => Rs.st) = _
  unfold appO
  cases oLst S x <;> rfl
@[simp] theorem gSetL_ap {fo fi : ED} : gSetL fo fi x ρ S = (fo ρ S).bind fun o S1 => (fi ρ S1).bind fun i S2 => okE ρ (setL x o i S2) := rfl
@[simp] theorem okE_some : okE ρ (some S) = .ok ρ S := rfl
@[simp] theorem setL_ob {n : Nat} {i : Int} : setL x (D.ob n) (D.p (PyData.int i)) S = (obO S[n]?).bind fun l => (ixN l.length i).map fun j => S.set n (.lst (l.set j x)) := by
  show (match S[n]? with | some (.lst l) => (match ixN l.length i with | some j => some (S.set n (.lst (l.set j x))) | none => none) | _ => none) = _
  cases S[n]? with
  | none => rfl
  | some o =>
    cases o with
    | lst l =>
      show (match ixN l.length i with | some j => some (S.set n (.lst (l.set j x))) | none => none) = (ixN l.length i).map _
      cases ixN l.length i <;> rfl
    | fz _ => rfl
    | dic _ => rfl
    | dik _ => rfl
    | ins _ _ => rfl
    | lck => rfl
    | lkd _ => rfl
theorem ixN_nat (n k : Nat) : ixN n (k : Int) = if k < n then some k else none := by
  unfold ixN
  rw [if_pos (by omega)]
  by_cases h : (k : Int) < (n : Int)
  · rw [if_pos h, if_pos (by omega)]; rfl
  · rw [if_neg h, if_neg (by omega)]
@[simp] theorem ixN_0 (n : Nat) : ixN n 0 = if 0 < n then some 0 else none := ixN_nat n 0
@[simp] theorem ixN_1 (n : Nat) : ixN n 1 = if 1 < n then some 1 else none := ixN_nat n 1
@[simp] theorem sizeLine_val : sizeLine = 16777216 := sizeLine_eq
end
end DL
namespace DL
open PySem PySem.Spec PyProof.Rows L2
section
variable {g : GD} {body : SD} {chk : Sto → Prop}
theorem forL_inv (I : Nat → Env → Sto → Prop) : ∀ (ds : List D) (k : Nat) (ρ : Env) (S : Sto), (∀ i d ρ S, ds[i]? = some d → I (k + i) ρ S → ∃ ρ1 S1, g d ρ S = .ok ρ1 S1 ∧ ∃ ρ2 S2, (body ρ1 S1 = .nx ρ2 S2 ∨ body ρ1 S1 = .ct ρ2 S2) ∧ chk S2 ∧ I (k + i + 1) ρ2 S2) → I k ρ S →
    ∃ ρ' S', forL g body chk ds ρ S = .nx ρ' S' ∧ I (k + ds.length) ρ' S'
  | [], k, ρ, S, _, h => ⟨ρ, S, rfl, h⟩
  | d :: ds, k, ρ, S, st, h => by
    obtain ⟨ρ1, S1, e1, ρ2, S2, e2, c, h2⟩ := st 0 d ρ S rfl h
    obtain ⟨ρ', S', e3, h3⟩ := forL_inv I ds (k + 1) ρ2 S2 (fun i d ρ S e hh => by
      have := st (i + 1) d ρ S (by simpa using e) (by rw [show k + (i + 1) = k + 1 + i by omega]; exact hh)
      rw [show k + (i + 1) + 1 = k + 1 + i + 1 by omega] at this
      exact this) h2
    refine ⟨ρ', S', ?_, by rw [List.length_cons, show k + (ds.length + 1) = k + 1 + ds.length by omega]; exact h3⟩
    unfold forL
    rw [e1]
    rcases e2 with e2 | e2
    · simp only [e2, if_pos c]; exact e3
    · simp only [e2, if_pos c]; exact e3
theorem rngL_get {lo : Int} {n i : Nat} {d : D} (e : (rngL lo n)[i]? = some d) : i < n ∧ d = .int (lo + i) := by
  unfold rngL at e
  rw [List.getElem?_map] at e
  by_cases h : i < n
  · rw [List.getElem?_range h] at e
    cases e
    exact ⟨h, rfl⟩
  · rw [List.getElem?_eq_none (by simpa using h)] at e
    cases e
@[simp] theorem rngL_length {lo : Int} {n : Nat} : (rngL lo n).length = n := by simp [rngL]
theorem big62_of {i : Int} (h1 : -4611686018427387904 ≤ i) (h2 : i < 4611686018427387904) : big62 i = true := by
  unfold big62
  exact @decide_eq_true _ (Classical.propDecidable _) ⟨h1, h2⟩
theorem big62_nat {n : Nat} (h : n < 4611686018427387904) : big62 (n : Int) = true := big62_of (by omega) (by omega)
end
end DL
namespace DL
open PySem PySem.Spec PyProof.Rows L2
section
variable {P : Program} {w : World} {K : PySem.W.Frag} {mg : Str → Option Value} {base : Heap}
structure FnN (P : Program) (w : World) (K : PySem.W.Frag) (mg : Str → Option Value) (base : Heap) (k : Nat) (x : Str) (n : Nat) (g : FD) : Prop where
  ex : ∃ (f : Addr) (fd : FuncData) (ps : List Str), ps.length = n ∧ mg x = some (.ref f) ∧ PySem.W.keepIn K (.ref f) = true ∧ Binds K fd ps [] ∧ FnOk P w K mg base (L2N.CX P w) k f fd ps (spOf K mg n g)
end
section
variable {X : Cx} {W : WX} {m m1 : List Addr} {S S1 : Sto} {H H1 : Hp} {σ : St} {ρ : Env} {κ : Addr → Prop}
variable {a b c e o : Expr} {pos : Pos} {fa fb fe fo : ED} {es : List Expr} {ga : AD} {ss : List Stmt}
theorem de_callN {k j n : Nat} {x : Str} {p : Pos} {g : FD} (F : FnN X.prog X.w X.K X.mg X.base k x n g) (tk : L2N.Takes X W) (hr : Room j X.A) (hk : k ≤ j) (hg : Gl X x) (ha : DA X W (e :: es) ga)
    (hd : (x == ("__debug__" : Str)) = false := by decide) (hs : starEach (e :: es) X.env = (false, eval e X.env) :: starEach es X.env := by rfl)
    (hp : (backTo pos (starEach es X.env)).any (·.1) = false := by rfl) : DE X W (.Call (.Name x p) (e :: es) [] pos) (eCallX n g ga) := by
  obtain ⟨f, fd, ps, hl, gm, kp, bd, ok⟩ := F
  obtain ⟨t, q, i⟩ := ha
  refine ⟨_, pe_callS (E := WE W) ok (hr.mono hk) hg gm kp bd (fun σ => L2N.passAt tk σ) q hd hs hp, fun κ ρ S σ H m Q rl re h => ?_⟩
  refine i.seq rl re h fun d S1 v H1 m1 x1 rl1 re1 r1 h1 => ?_
  split at h1
  · rename_i hn
    exact ⟨by rw [← pairLen r1]; exact hn, κ, d, S1, m1, rl1, r1, PostF.of h1⟩
  · exact h1.elim
structure DM (X : Cx) (e : Expr) (f : Env → Sto → Rs Xc) : Prop where
  ex : ∃ t : St → Hp → XK → Prop, L2N.PMk X e t ∧ ∀ κ ρ S σ H m (Q : XK), Rl (KX X κ) m S H → RE (KX X κ) m S H ρ σ →
    (match f ρ S with | .ok x S' => ∀ H' m' c dd, Nx (KX X κ) m S H m' S' H' → Rl (KX X κ) m' S' H' → RX X.mg (KX X κ) (lv (KX X κ) m' S') H' x c dd → Q c dd H' | _ => False) → t σ H Q
def sRaise (f : Env → Sto → Rs Xc) : SD := fun ρ S => match f ρ S with
  | .ok x S1 => .ex x ρ S1
  | _ => .st
theorem ds_raise {f : Env → Sto → Rs Xc} (hc : X.calm = true) (tk : L2N.Takes X W) (he : DM X e f) : DS X W (.Raise (some e) none pos) (sRaise f) := by
  obtain ⟨t, p, i⟩ := he
  refine ⟨_, L2N.ps_raise hc tk p, fun κ ρ S σ H m Dn rl re h => ?_⟩
  refine i κ ρ S σ H m _ rl re ?_
  unfold sRaise at h
  cases e1 : f ρ S with
  | st => rw [e1] at h; exact h.elim
  | ex _ _ => rw [e1] at h; exact h.elim
  | ok x S1 =>
    rw [e1] at h
    exact fun H' m' c dd nx rl' rx => h σ H' m' c dd nx rl' (re.nx nx) rx
def gone (i : Nat) : Out → Out
  | .nx ρ S => .nx (ρ.set i none) S
  | .bk ρ S => .bk (ρ.set i none) S
  | .ct ρ S => .ct (ρ.set i none) S
  | .rt d S => .rt d S
  | _ => .st
open Classical in
noncomputable def common (q : Option Addr → Prop) (F : Addr → Option Addr → Out) : Out := if h : ∃ o, ∀ a d, q d → F a d = o then h.choose else .st
theorem common_eq {q : Option Addr → Prop} {F : Addr → Option Addr → Out} {o : Out} (h : ∀ a d, q d → F a d = o) (ne : ∃ d, q d) : common q F = o := by
  have e : ∃ o, ∀ a d, q d → F a d = o := ⟨o, h⟩
  unfold common
  rw [dif_pos e]
  obtain ⟨d, hd⟩ := ne
  exact (e.choose_spec 0 d hd).symm.trans (h 0 d hd)
theorem common_at {q : Option Addr → Prop} {F : Addr → Option Addr → Out} {R : Out → Prop} (hst : ¬ R .st) (h : R (common q F)) {a : Addr} {d : Option Addr} (hd : q d) : R (F a d) := by
  unfold common at h
  by_cases e : ∃ o, ∀ a d, q d → F a d = o
  · rw [dif_pos e] at h
    rw [e.choose_spec a d hd]
    exact h
  · rw [dif_neg e] at h
    exact absurd h hst
noncomputable def sTry (sub : Str → Bool → Option Bool) (i : Nat) (fb : SD) (fs : Str → Addr → Option Addr → SD) : SD := fun ρ S => match fb ρ S with
  | .ex x ρ1 S1 => (match sub x.c (!x.fs.isEmpty) with
    | some true => common (fun d => d.isSome = !x.fs.isEmpty) fun a d => gone i (fs x.c a d (ρ1.set i (some (.xc a d x.fs))) S1)
    | some false => .ex x ρ1 S1
    | none => .st)
  | o => o
def canT (Y : Cx) (sub : Str → Bool → Option Bool) (hb : Bool) (fs : Str → SD) (cls : Value) : TS := fun D σ H => ∃ (cn : Str) (κ : Addr → Prop) (ρ : Env) (S : Sto) (m : List Addr), sub cn hb = some true ∧ Y.mg cn = some cls ∧ Rl (KX Y κ) m S H ∧ RE (KX Y κ) m S H ρ σ ∧
  PostS Y κ (fun _ _ _ _ => False) m S H (fs cn ρ S) D
theorem ds_try_as {body suite : List Stmt} {b₀ : Stmt} {np pos' : Pos} {i : Nat} {x n : Str} {c : Value} {sub : Str → Bool → Option Bool} {fb : SD} {fs : Str → Addr → Option Addr → SD}
    (hs : X.stack = X.env :: X.outer) (hf : X.env.frame = some X.env.locals) (hN : X.N.Nodup) (hi : X.N[i]? = some n) (hln : X.env.kindOf n = some .local) (hc : Names X x c) (tk : L2N.Takes X W)
    (hsub : ∀ cn hb b cls, sub cn hb = some b → X.mg cn = some cls → PySem.W.exmOne X.K cls c = some b)
    (hb : ∀ (W : WX) (pn : List (Addr × Obj)) (xe : Value → Shared → Prop), L2N.Takes (X.tr pn xe) W → PassesOwn (model X.prog X.w) X.A X.env xe → DSs (X.tr pn xe) W body fb)
    (hsu : ∀ (cn : Str) (cls : Value) (a : Addr) (oe : Obj) (d : Option Addr) (pn : List (Addr × Obj)), sub cn d.isSome = some true → X.mg cn = some cls → L2N.Zn cls d oe → (∃ vs, oe.data = .fields vs) → DSs (X.suite a ((a, oe) :: pn)) (fun _ _ _ _ => False) (b₀ :: suite) (fs cn a d)) :
    DS X W (.Try body [.ExceptHandler (some (.Name x np)) (some n) (b₀ :: suite) pos'] [] [] pos) (sTry sub i fb fs) := by
  have hb' : ∀ (W : WX) (pn : List (Addr × Obj)) (xe : Value → Shared → Prop), L2N.Takes (X.tr pn xe) W → PassesOwn (model X.prog X.w) X.A X.env xe → PSs (X.tr pn xe) body (fun D σ H => ∃ (κ : Addr → Prop) (ρ : Env) (S : Sto) (m : List Addr), Rl (KX X κ) m S H ∧ RE (KX X κ) m S H ρ σ ∧ PostS X κ W m S H (fb ρ S) D) := by
    intro W pn xe t ps
    obtain ⟨t, p, im⟩ := hb W pn xe t ps
    exact ⟨fun pins s σ H D I ⟨κ, ρ, S, m, rl, re, h⟩ => p.run pins s σ H D I (im κ ρ S σ H m D rl re h)⟩
  have hsu' : ∀ (a : Addr) (oe : Obj) (cls : Value) (d : Option Addr) (pn : List (Addr × Obj)), L2N.Zn cls d oe → (∃ vs, oe.data = .fields vs) → PSs (X.suite a ((a, oe) :: pn)) (b₀ :: suite) (canT X sub d.isSome (fun cn => fs cn a d) cls) := by
    intro a oe cls d pn hz hfl
    refine ⟨fun pins s σ H D I hw => ?_⟩
    obtain ⟨cn, κ, ρ, S, m, e1, e2, rl, re, h⟩ := hw
    obtain ⟨t, p, im⟩ := hsu cn cls a oe d pn e1 e2 hz hfl
    exact p.run pins s σ H D I (im κ ρ S σ H m D rl re h)
  refine ⟨_, L2N.ps_try_as hs hf hN hi hln hc tk hb' hsu', fun κ ρ S σ H m Dn rl re h => ⟨κ, ρ, S, m, rl, re, ?_⟩⟩
  have h : PostS X κ W m S H (sTry sub i fb fs ρ S) Dn := h
  unfold sTry at h
  cases e1 : fb ρ S with
  | st => rw [e1] at h; exact h.elim
  | nx _ _ => rw [e1] at h; exact h
  | bk _ _ => rw [e1] at h; exact h
  | ct _ _ => rw [e1] at h; exact h
  | rt _ _ => rw [e1] at h; exact h
  | ex y ρ1 S1 =>
    rw [e1] at h
    simp only at h
    intro σ1 H1 m1 cls dd x1 rl1 re1 rx
    have hd : dd.isSome = !y.fs.isEmpty := by
      rcases rx.2 with ⟨q1, q2⟩ | ⟨d, q1, q2, q3⟩
      · rw [q1, q2]; rfl
      · rw [q1]
        cases e5 : y.fs with
        | nil => exact absurd e5 q2
        | cons _ _ => rfl
    cases e2 : sub y.c (!y.fs.isEmpty) with
    | none => rw [e2] at h; exact h.elim
    | some bb =>
      refine ⟨bb, hsub _ _ _ _ e2 rx.1, fun hbt a ha => ?_, fun hbf => ?_⟩
      · subst hbt
        rw [e2] at h
        have h2 := common_at (R := fun o => PostS X κ W m S H o Dn) (fun z => z) h (a := a) (d := dd) hd
        refine ⟨y.c, κ, ρ1.set i (some (.xc a dd y.fs)), S1, m1, by rw [hd]; exact e2, rx.1, rl1, pairSet re1 (fun d' e => ⟨_, rfl, ?_⟩), ?_⟩
        · cases e
          refine ⟨rfl, fun d e => ?_⟩
          rcases rx.2 with ⟨_, q2⟩ | ⟨d2, q1, _, q3⟩
          · rw [q2] at e; cases e
          · rw [q1] at e; cases e; exact q3
        · have h3 := PostS.nx x1 h2
          show PostS X κ (fun _ _ _ _ => False) m1 S1 H1 (fs y.c a dd (ρ1.set i (some (.xc a dd y.fs))) S1) _
          cases e3 : fs y.c a dd (ρ1.set i (some (.xc a dd y.fs))) S1 with
          | st => rw [e3] at h3; exact h3.elim
          | ex _ _ _ => rw [e3] at h3; exact h3.elim
          | nx ρ2 S2 => rw [e3] at h3; exact fun σ' H' m' x2 rl2 re2 => h3 _ H' m' x2 rl2 (pairSet re2 fun d' e => by cases e)
          | bk ρ2 S2 => rw [e3] at h3; exact fun σ' H' m' x2 rl2 re2 => h3 _ H' m' x2 rl2 (pairSet re2 fun d' e => by cases e)
          | ct ρ2 S2 => rw [e3] at h3; exact fun σ' H' m' x2 rl2 re2 => h3 _ H' m' x2 rl2 (pairSet re2 fun d' e => by cases e)
          | rt d2 S2 => rw [e3] at h3; exact h3
      · subst hbf
        rw [e2] at h
        exact h σ1 H1 m1 cls dd x1 rl1 re1 rx
end
end DL
namespace DL
open PySem PySem.Spec PyProof.Rows L2
structure HX (X : Cx) (a : Addr) (cn : Str) (d : Option Addr) : Prop where
  ex : ∃ (oe : Obj) (cls : Value), (a, oe) ∈ X.pn ∧ L2H.Hot1 X.A (a, oe) ∧ X.mg cn = some cls ∧ L2N.Zn cls d oe
section
variable {X : Cx} {a0 : Addr} {cn : Str} {d0 : Option Addr}
theorem HX.hot (h : HX X a0 cn d0) : L2H.HotC X := by
  obtain ⟨oe, cls, h1, h2, _⟩ := h
  exact ⟨_, h2, h1⟩
theorem HX.of_suite {cls : Value} {oe : Obj} {pn : List (Addr × Obj)} (hm : X.mg cn = some cls) (hz : L2N.Zn cls d0 oe) (hf : ∃ vs, oe.data = .fields vs) : HX (X.suite a0 ((a0, oe) :: pn)) a0 cn d0 := by
  obtain ⟨vs, e⟩ := hf
  exact ⟨oe, cls, List.mem_cons_self, ⟨rfl, vs, e, hz.2.2 vs e⟩, hm, hz⟩
end
section
variable {P : Program} {w : World} {K : PySem.W.Frag} {mg : Str → Option Value} {base : Heap}
structure FnK (P : Program) (w : World) (K : PySem.W.Frag) (mg : Str → Option Value) (base : Heap) (k : Nat) (x : Str) (n : Nat) (cn : Str) (dk : Bool) (g : Addr → Option Addr → FD) : Prop where
  ex : ∃ (f : Addr) (fd : FuncData) (ps : List Str), ps.length = n ∧ mg x = some (.ref f) ∧ PySem.W.keepIn K (.ref f) = true ∧ Binds K fd ps [] ∧
    ∀ (A : Around) (outer : List PySem.Env) (s : Shared) (H : Hp) (ar : Args) (us : List Value) (vs : List V) (Q : VK) (E : XK) (a : Addr) (oe : Obj) (cls : Value) (d : Option Addr), d.isSome = dk →
      L2H.RoomH k A → L2H.Hot1 A (a, oe) → L2H.PinOk outer H s (a, oe) → mg cn = some cls → L2N.Zn cls d oe → Env0 P w K mg base A outer s H → BindsTo s fd ar (ps.zip us) → Vals vs us →
      spOf K mg n (fun ds S => noEx (g a d ds S)) vs H Q E → codeAny (model P w) A (.call (.ref f) ar) (CR CX0 outer P w H s Q E) s
abbrev hotX (P : Program) (w : World) (K : PySem.W.Frag) (mg : Str → Option Value) (base : Heap) (N : List Str) (x : Str) (st : Stmt) (f : Addr) (cdv : Value) (A : Around) (outer : List PySem.Env) (s : Shared) (H : Hp) (E : XK) (p : Addr × Obj) : Cx :=
  (L2H.cxH CX0 P w K mg base N x (defScope st) f cdv A outer s H E p).nox
theorem Fun.dlK {x : Str} {st : Stmt} {f : Addr} {fd : FuncData} {N ps : List Str} {k : Nat} {cn : Str} {dk : Bool} {F : Addr → Option Addr → SD} {g : Addr → Option Addr → FD} (Fu : Fun K x x st f fd) (Sc : FnScope N ps (defScope st)) (gm : mg x = some (.ref f)) (bd : Binds K fd ps [])
    (body : ∀ (cdv : Value) (A : Around) (outer : List PySem.Env) (s : Shared) (H : Hp) (E : XK) (p : Addr × Obj) (d : Option Addr), d.isSome = dk → L2H.RoomH k (A.deeper (envOfC x (defScope st) s.heap.objs.size f cdv)) → HX (hotX P w K mg base N x st f cdv A outer s H E p) p.1 cn d →
      DSs (hotX P w K mg base N x st f cdv A outer s H E p) (fun _ _ _ _ => False) (defBody st) (F p.1 d))
    (hg : ∀ a d ds S, ds.length = ps.length → ClS S.length S → (∀ d ∈ ds, ClD S.length d) → Dn S (F a d (start0 N ds) S) (g a d ds S)) : FnK P w K mg base (k + 1) x ps.length cn dk g := by
  refine ⟨f, fd, ps, rfl, gm, Fu.kp, bd, ?_⟩
  intro A outer s H ar us vs Q E a oe cls d hdk rm hot pin hm hz e0 hb r hsp
  obtain ⟨oc, od, kV, doc, pm, an, cdv, ct, osl, rfl, lk, hcd⟩ := Fu.ex
  have kin : K.In s.heap := e0.mod.kin.keeps fun b o e => (e0.bs b o e).1
  have lens : vs.length = ps.length := hsp.1
  have loc : ∀ y ∈ ps.zip us, (defScope st).names.lookup y.1 = some .local ∨ ((defScope st).names.lookup y.1 = some .cell ∧ ((cellsFrom (s.heap.objs.size + 1) (defScope st).names []).lookup y.1).isSome = true) := by
    rintro ⟨y, v⟩ hy
    rcases Sc.par y (List.of_mem_zip hy).1 with q | q
    · exact .inl q
    · exact .inr ⟨q, PySem.W.cellsFrom_some _ _ _ (.inl q)⟩
  refine codeAny_call_function rm.depth (kin _ _ lk) rfl Sc.co Sc.gen rfl (PySem.W.codeRec_of kin hcd) (hb _ _ _ _ ?_)
  refine wpAny_newFunctionEnv_cells Sc.kind loc fun en hen s1 ic => ?_
  subst hen
  refine ⟨(e0.mod.nolimit.keeps fun b o e => (e0.bs b o e).1).keeps ic.toInCall.keep, codeAny_func ?_⟩
  have J := L2H.inv_startH (E := E) (CX := CX0) (cd := cdv) Sc pin e0 lens r ic
  obtain ⟨t, pt, it⟩ := body cdv A outer s H E (a, oe) d hdk (rm.deeper _) ⟨oe, cls, List.mem_singleton.mpr rfl, hot, hm, hz⟩
  obtain ⟨hl, κ, ds, S, m, rl, rd, po⟩ := hsp
  have rdy := it κ (start0 N ds) S (L2.start N vs) H m { nx := fun _ H' => Q .non H', rt := Q } rl (RE_start rd) (by
    refine post_of (E := fun _ _ _ => False) rl (hg a d ds S ((pairLen rd).trans hl) rl.cl (fun d hd => ?_)) ?_ (fun _ _ _ _ z => z)
    · have := pairAll (F := RD ⟨K, κ, mg⟩ m S H) (P := ClD m.length) (fun _ _ q => q.cl) rd d hd
      rw [rl.len] at this
      exact this
    · have po : PostF ⟨K, κ, mg⟩ mg m S H (noEx (g a d ds S)) Q E := po
      cases e : g a d ds S with
      | st => rw [e] at po; exact po.elim
      | ok d S' => rw [e] at po; exact po
      | ex y S' => rw [e] at po; exact po.elim)
  refine wpAny_mono (pt.nox.run [] s1 _ H _ J rdy) (fun fl s' hs => ?_) fun e s' hs => hs
  cases fl with
  | ret u =>
    obtain ⟨v, σ', H', J', rv, q⟩ := hs
    exact ⟨v, H', J'.os, J'.bare, J'.base, J'.hok, rv, q⟩
  | next =>
    obtain ⟨σ', H', J', q⟩ := hs
    exact ⟨.non, H', J'.os, J'.bare, J'.base, J'.hok, rfl, q⟩
  | brk =>
    obtain ⟨_, _, _, q⟩ := hs
    exact q.elim
  | cont =>
    obtain ⟨_, _, _, q⟩ := hs
    exact q.elim
end
section
variable {X : Cx} {W : WX} {m m1 : List Addr} {S S1 : Sto} {H H1 : Hp} {σ : St} {ρ : Env} {κ : Addr → Prop}
variable {a b c e o : Expr} {pos : Pos} {fa fb fe fo : ED} {es : List Expr} {ga : AD} {ss : List Stmt} {a0 : Addr} {cn : Str} {d0 : Option Addr}
theorem de_callK {k j n : Nat} {x : Str} {p : Pos} {g : Addr → Option Addr → FD} (hx : HX X a0 cn d0) (F : FnK X.prog X.w X.K X.mg X.base k x n cn d0.isSome g) (hr : L2H.RoomH j X.A) (hk : k ≤ j) (hg : Gl X x) (ha : DA X W (e :: es) ga)
    (hd : (x == ("__debug__" : Str)) = false := by decide) (hs : starEach (e :: es) X.env = (false, eval e X.env) :: starEach es X.env := by rfl)
    (hp : (backTo pos (starEach es X.env)).any (·.1) = false := by rfl) : DE X W (.Call (.Name x p) (e :: es) [] pos) (eCall n (g a0 d0) ga) := by
  obtain ⟨f, fd, ps, hl, gm, kp, bd, ok⟩ := F
  obtain ⟨t, q, i⟩ := ha
  obtain ⟨oe, cls, hmem, hot, hm, hz⟩ := hx
  have pe : PE X (.Call (.Name x p) (e :: es) [] pos) (fun σ H Q => t σ H fun vs H1 => spOf X.K X.mg n (fun ds S => noEx (g a0 d0 ds S)) vs H1 Q (fun _ _ _ => False)) := by
    refine ⟨fun pins s σ H Q I hw => ?_⟩
    refine wpAny_Call_Name_kw (ld_glob I hg gm ?_ hd)
    refine PySem.W.callWith_K (h₀ := X.base) I.ok.mod.kin kp (thn (q.run pos pins s σ H _ I hw) fun us s1 hv => ?_) hs hp
    obtain ⟨vs, H1, I1, r, sp⟩ := hv
    have hul : us.length = ps.length := by rw [← r.length, hl]; exact sp.1
    have bb := bd s1 us I1.kIn (by rw [List.append_nil]; exact hul)
    rw [List.append_nil] at bb
    have pp := I1.pin (a0, oe) (List.mem_append_left _ hmem)
    have pk : L2H.PinOk X.stack H1 s1 (a0, oe) := by
      refine ⟨pp.1, pp.2.1, fun z => ?_, pp.2.2.2.2⟩
      rcases List.mem_cons.mp (I1.stkSub a0 z) with z | z
      · exact pp.2.2.1 z
      · exact pp.2.2.2.1 z
    refine ⟨I1.kIn, wpAny_call (codeAny_mono (ok X.A X.stack s1 H1 ⟨us, []⟩ us vs Q (fun _ _ _ => False) a0 oe cls d0 rfl (hr.mono hk) hot pk hm hz I1.env0 bb r sp) fun rs s' hq => ?_)⟩
    cases rs with
    | error _ => exact hq.elim
    | ok fl =>
      cases fl with
      | ret u => exact I1.after hq
      | next => exact hq.elim
      | brk => exact hq.elim
      | cont => exact hq.elim
  refine ⟨_, pe, fun κ ρ S σ H m Q rl re h => ?_⟩
  refine i.seq rl re h fun d S1 v H1 m1 x1 rl1 re1 r1 h1 => ?_
  split at h1
  · rename_i hn
    exact ⟨by rw [← pairLen r1]; exact hn, κ, d, S1, m1, rl1, r1, PostF.no h1⟩
  · exact h1.elim
def rIsH (K : PySem.W.Frag) (D0 a0 : Addr) (d0 : Option Addr) : List V → Hp → VK → Prop := fun xs H Q => ∃ (c : V) (cv : Value) (b : Bool), xs = [.ref a0, c] ∧ (∀ u, RelV c u → u = cv) ∧ PySem.W.kitOne K (.ref D0) cv = some b ∧ (∀ d, d0 = some d → ∃ fs, H d = some (.xd fs)) ∧ Q (.bl b) H
theorem call_isH {D0 : Addr} (C : ExcC X.K D0) (hx : HX X a0 cn d0) (hc : X.mg cn = some (.ref D0)) : CallR X (.builtin "isinstance") (rIsH X.K D0 a0 d0) := by
  obtain ⟨oe, cls, hmem, ⟨_, vs0, hd, _⟩, hm, hz⟩ := hx
  rw [hc] at hm
  cases hm
  intro pins s σ H xs us Q I r h
  obtain ⟨c, cv, b, rfl, hcv, e, hdd, q⟩ := h
  rcases r with _ | ⟨rx, _ | ⟨rt, _ | _⟩⟩
  cases rx
  have ec := hcv _ rt
  subst ec
  have g := (I.pin (a0, oe) (List.mem_append_left _ hmem)).1
  have nc : PySem.W.notCls oe := by unfold PySem.W.notCls; rw [hd] <;> rfl
  have J : ∃ od, PySem.W.InstAt s.heap a0 oe D0 od := by
    cases d0 with
    | none => exact ⟨none, g, hz.1, nc, by rw [hz.2.1]; trivial⟩
    | some d =>
      obtain ⟨fs, hfs⟩ := hdd d rfl
      obtain ⟨mA, hns, _⟩ := (I.hok d _ hfs : ObjOk X.prog X.w H s.heap d (.xd fs))
      obtain ⟨od, ho, _⟩ := lookIn_ns hns
      exact ⟨some od, g, hz.1, nc, by rw [hz.2.1]; exact ho⟩
  obtain ⟨od, J⟩ := J
  obtain ⟨cd, hcl, _⟩ := PySem.W.any_some C.hd
  exact PySem.W.kia_one (PySem.W.kitx_exc (by rw [hcl]; rfl) C.hg C.hk C.hs C.ha C.hn C.ht C.hm) I.kIn J e (fun z => nomatch z) fun tk => ⟨.bl b, H, I.kept (t' := tk) fun _ _ z => z, rfl, q⟩
def eIsE (a0 : Addr) (d0 : Option Addr) (b : Bool) (f : ED) : ED := fun ρ S => (f ρ S).bind fun d S1 => match d with
  | .xc a dd _ => if a = a0 ∧ dd = d0 then .ok (.bl b) S1 else .st
  | _ => .st
theorem de_isE {D0 : Addr} {x : Str} {p p2 : Pos} {v : V} {cv : Value} {r : Bool} (C : ExcC X.K D0) (hx : HX X a0 cn d0) (hc : X.mg cn = some (.ref D0)) (hg : Gl X "isinstance") (hm : X.mg "isinstance" = none)
    (hn : PE X (.Name x p2) (tC v)) (hv : ∀ u, RelV v u → u = cv) (hk : PySem.W.kitOne X.K (.ref D0) cv = some r) (he : DE X W e fe)
    (hb : bootBuiltins "isinstance" = some (.builtin "isinstance") := by decide +kernel)
    (hs1 : starEach [e, .Name x p2] X.env = (false, eval e X.env) :: starEach [.Name x p2] X.env := by rfl) (hs2 : starEach [.Name x p2] X.env = (false, eval (.Name x p2) X.env) :: starEach [] X.env := by rfl)
    (hp : (backTo pos (starEach [.Name x p2] X.env)).any (·.1) = false := by rfl) :
    DE X W (.Call (.Name "isinstance" p) [e, .Name x p2] [] pos) (eIsE a0 d0 r fe) := by
  obtain ⟨t, q, i⟩ := he
  refine ⟨_, pe_callB (call_isH C hx hc) hg hm hb (pa_cons q (pa_cons hn pa_nil hs2) hs1) (by decide) (by decide) hs1 hp, fun κ ρ S σ H m Q rl re h => ?_⟩
  refine i.seq rl re h fun d S1 u H1 m1 x1 rl1 re1 r1 h1 => ?_
  split at h1
  · split at h1
    · rename_i a dd fs ea
      obtain ⟨rfl, rfl⟩ := ea
      exact ⟨v, cv, r, by rw [r1.1], hv, hk, fun d e => ⟨_, r1.2 d e⟩, h1.ok' .refl rl1 RD.bl_⟩
    · exact h1.elim
  · exact h1.elim
def eAttr (a0 : Addr) (d0 : Option Addr) (f : Str) (g : ED) : ED := fun ρ S => (g ρ S).bind fun d S1 => match d with
  | .xc a dd fs => if a = a0 ∧ dd = d0 ∧ d0.isSome = true then (match fs.lookup f with
    | some (.int i) => .ok (.int i) S1
    | some (.str x) => .ok (.str x) S1
    | _ => .st) else .st
  | _ => .st
theorem lookup_sVs {f : Str} {p : PyData} : ∀ {fs : List (Str × PyData)}, fs.lookup f = some p → (sVs fs).lookup f = some (sV p)
  | [], h => by cases h
  | (g, q) :: fs, h => by
    unfold sVs
    rw [List.map_cons]
    rw [List.lookup_cons] at h ⊢
    by_cases e : f == g
    · rw [e] at h ⊢
      simp only at h ⊢
      cases h
      rfl
    · have e : (f == g) = false := by simpa using e
      rw [e] at h ⊢
      exact lookup_sVs h
theorem de_attr {C0 : Addr} {n : Str} (T : XfC X.K C0) (hno : PySem.W.findIn X.K (.ref C0) n = some none) (hx : HX X a0 cn d0) (hc : X.mg cn = some (.ref C0)) (he : DE X W e fe) (hb : attributeBase e n X.env (eval e X.env) = eval e X.env := by rfl) : DE X W (.Attribute e n pos) (eAttr a0 d0 n fe) := by
  obtain ⟨t, q, i⟩ := he
  obtain ⟨oe, cls, hmem, ⟨_, vs0, hd, _⟩, hm, hz⟩ := hx
  rw [hc] at hm
  cases hm
  have pe : PE X (.Attribute e n pos) (fun σ H Q => t σ H fun x H1 => x = .ref a0 ∧ ∃ (d : Addr) (fs : List (Str × V)) (v : V), d0 = some d ∧ H1 d = some (.xd fs) ∧ fs.lookup n = some v ∧ Q v H1) := by
    refine ⟨fun pins s σ H Q I hw => ?_⟩
    refine attr_of hb (thn (q.run pins s σ H _ I hw) fun u s1 hh => ?_)
    obtain ⟨x, H1, I1, rx, rfl, d, fs, v, rfl, ea, l, qq⟩ := hh
    cases rx
    have g := (I1.pin (a0, oe) (List.mem_append_left _ hmem)).1
    obtain ⟨mA, hns, hr⟩ := (I1.hok d _ ea : ObjOk X.prog X.w H1 s1.heap d (.xd fs))
    obtain ⟨od, ho, hl⟩ := lookIn_ns hns
    obtain ⟨u, hu, ru⟩ := RelO.some_of (v := v) (o := mA n) (by rw [← l]; exact hr n)
    have J : PySem.W.InstAt s1.heap a0 oe C0 (some od) := ⟨g, hz.1, by unfold PySem.W.notCls; rw [hd] <;> rfl, by rw [hz.2.1]; exact ho⟩
    exact HandSPX.exc_get I1.kIn J T.ga T.gg T.exC (PySem.W.findObj_own T.hdC hno rfl (by rw [hl, hu])) (handed_of ru) ⟨v, H1, I1.tok _, ru, qq⟩
  refine ⟨_, pe, fun κ ρ S σ H m Q rl re h => ?_⟩
  refine i.seq rl re h fun d S1 u H1 m1 x1 rl1 re1 r1 h1 => ?_
  split at h1
  · split at h1
    · rename_i a dd fs ea
      obtain ⟨rfl, rfl, hs⟩ := ea
      obtain ⟨d1, rfl⟩ := Option.isSome_iff_exists.mp hs
      split at h1
      · rename_i i el
        exact ⟨r1.1, d1, _, _, rfl, r1.2 d1 rfl, lookup_sVs el, h1.ok' .refl rl1 RD.int_⟩
      · rename_i z el
        exact ⟨r1.1, d1, _, _, rfl, r1.2 d1 rfl, lookup_sVs el, h1.ok' .refl rl1 RD.str_⟩
      · exact h1.elim
    · exact h1.elim
  · exact h1.elim
structure DIH (X : Cx) (W : WX) (tg iter : Expr) (f : Env → Sto → Rs IDt) : Prop where
  ex : ∃ wi : TI, L2H.PIH X tg iter wi ∧ Imp X W (fun K m S H (d : IDt) (J : It) => ItOk K m S H J d.1 d.2) wi f
theorem dih_range1 {tg : Expr} {p : Pos} {ga : AD} (hg : Gl X "range") (hm : X.mg "range" = none) (ha : DA X W [a] ga) (hs : starEach [a] X.env = [(false, eval a X.env)] := by rfl) : DIH X W tg (.Call (.Name "range" p) [a] [] pos) (iRgA ga) := by
  obtain ⟨t, q, i⟩ := ha
  refine ⟨_, L2H.pi_range1H hg hm q hs, fun κ ρ S σ H m Q rl re h => ?_⟩
  refine i.seq rl re h fun d S1 v H1 m1 x1 rl1 re1 r1 h1 => ?_
  split at h1
  · split at h1
    · rename_i i hi
      obtain ⟨u, rfl, q1⟩ := RDs1 r1
      have hi' := big62_iff hi
      rw [q1.int]
      exact ⟨i, rfl, hi'.1, hi'.2, h1.ok' .refl rl1 itr_ok⟩
    · exact h1.elim
  · exact h1.elim
theorem ds_forH {tg iter : Expr} {body : List Stmt} {f : Env → Sto → Rs IDt} {g : GD} {fb : SD} (hp : PassesOwn (model X.prog X.w) X.A X.env X.xe) (hx : HX X a0 cn d0) (hi : DIH X W tg iter f) (hg : DG X W tg g) (hb : DSs X W body fb)
    (hs : ∀ x, foldedSetIterable iter X.env x = pure x := by intro _; rfl) : DS X W (.For tg iter body [] pos) (sFor f g fb) := by
  obtain ⟨wi, pi, ii⟩ := hi
  obtain ⟨t, pg, ig⟩ := hg
  obtain ⟨tb, pb, ib⟩ := hb
  exact ⟨_, L2H.ps_forH hp hx.hot pi pg pb hs, imp_for ii ig ib⟩
end
abbrev blkH (X : Cx) (s : Shared) (H : Hp) (scope : Scope) (ce : PySem.Env) (fp : List Addr) : Cx := { X.blk s H scope ce fp with pn := X.pn }
section
variable {X : Cx} {pins : List (Addr × Obj)} {σ : St} {H : Hp} {s : Shared} {scope : Scope} {own : List (Str × Nat)} {fp : List Addr}
theorem startH (I : Inv X pins σ H s) (ok : BlkOk X.N X.env.scope scope own) (hN : X.N.Nodup) (hfp : ∀ b ∈ fp, FpOk X pins H b ∧ b < s.heap.objs.size) :
    Inv (blkH X s H scope (compEnvC scope (cellsFrom (s.heap.objs.size + 1) scope.names (cloFrom X.env.cells scope.names [])) s.heap.objs.size X.env) fp) [] (L2.wipe σ (own.map (·.2))) H { s with heap := pushCells (s.heap.push { cls := .type "dict", data := .dict #[] }) scope.names } := by
  have J := block_start I ok hN hfp
  have o := J.ok
  refine ⟨⟨o.mod, o.kind, o.glob, o.blt, o.above, o.inj, o.has, o.cab, o.hd, o.frames, o.stk, o.exf, o.bs, o.bsz, o.noex, o.exfs, o.funs, o.frf⟩, J.os, J.bare, J.base, J.loc, J.cell, J.free, J.freeC, fun q hq => ?_, J.hok, J.len⟩
  have hq : q ∈ X.pn := by simpa using (show q ∈ X.pn ++ [] from hq)
  obtain ⟨e1, e2, e3, e4, e5⟩ := I.pin q (List.mem_append_left _ hq)
  refine ⟨pushCells_keeps _ _ _ _ (Heap.get?_push_of_some _ e1), e2, Nat.ne_of_lt (Heap.lt_size e1), fun z => ?_, e5⟩
  rcases List.mem_cons.mp (I.stkSub q.1 z) with z | z
  · exact e3 z
  · exact e4 z
theorem pe_lcH {elt tg iter : Expr} {ifs : List Expr} {pos : Pos} {wi : TI} {g : TG} {tt : TT} {te : TE} (hc : L2H.HotC X) (hN : X.N.Nodup) (hi : L2H.PIH X tg iter wi) (ok : BlkOk X.N X.env.scope scope own)
    (hg : ∀ (s : Shared) (H : Hp) (C : Addr) (cl : List (Str × Addr)) (fp : List Addr), PG (blkH X s H scope (compEnvC scope cl C X.env) fp) tg g)
    (ht : ∀ (s : Shared) (H : Hp) (C : Addr) (cl : List (Str × Addr)) (fp : List Addr), PTs (blkH X s H scope (compEnvC scope cl C X.env) fp) ifs tt)
    (he : ∀ (s : Shared) (H : Hp) (C : Addr) (cl : List (Str × Addr)) (fp : List Addr), PE (blkH X s H scope (compEnvC scope cl C X.env) fp) elt te)
    (hs : ∀ x, foldedSetIterable iter X.env x = pure x := by intro _; rfl) : PE X (.ListComp elt [⟨tg, iter, ifs, 0⟩] scope pos) (tLc wi g tt te (own.map (·.2))) := by
  refine ⟨fun pins s σ H Q I hw => ?_⟩
  rw [eval_ListComp]
  have clo : closureFor scope X.env = pure (cloFrom X.env.cells scope.names []) := closure_ok fun y hy e => by
    rcases ok.free y hy e with q | q
    · exact I.ok.has _ (.inl q)
    · exact I.ok.has _ (.inr q)
  have hHot : ∀ (s : Shared) (H : Hp) (ce : PySem.Env) (fp : List Addr), L2H.HotC (blkH X s H scope ce fp) := fun _ _ _ _ => hc
  refine wpAny_comprehension_free (use := none) rfl hs clo ok.kind (fun y hy e => by rw [ok.uniq y hy, e]) (thn (hi.run pins s σ H _ I hw) fun xv sa hx => thn hx fun itv sb hb => ?_)
  obtain ⟨it, fp, tn, J, Hb, rfl, Ib, T, stb, fb, q⟩ := hb
  refine wpAny_newObj_type (newEnv_comp ?_) (Nat.zero_le _)
  -- the list that grows stands at L
  obtain ⟨L, hL⟩ : ∃ L, L = sb.heap.objs.size := ⟨_, rfl⟩
  have free : Hb L = none := Ib.hok.fresh (Nat.le_of_eq hL.symm)
  obtain ⟨Wv, ⟨m0, w0⟩, turn⟩ := q L free
  obtain ⟨sc, hsc⟩ : ∃ sc : Shared, sc = { sb with heap := sb.heap.push { cls := .type "list", data := .seq ([] : List Value).toArray } } := ⟨_, rfl⟩
  have hsz : sb.heap.objs.size < sc.heap.objs.size := by rw [hsc]; show _ < (Heap.push _ _).objs.size; rw [Heap.size_push]; exact Nat.lt_succ_self _
  have kbc : ∀ b o, sb.heap.get? b = some o → sc.heap.get? b = some o := fun b o e => by rw [hsc]; exact Heap.get?_push_of_some _ e
  have Ic : Inv X pins σ (upd Hb L (.lst [])) sc := by
    rw [hsc, hL]
    exact Ib.laid (t' := sb.toks) (fun b o e => Heap.get?_push_of_some _ e) (Nat.le_refl _) ⟨Nat.zero_le _, [], 0, .nil, Heap.get?_push_size _ rfl⟩
  have fc : ∀ b ∈ fp, FpOk X pins (upd Hb L (.lst [])) b ∧ b < sc.heap.objs.size := fun b hb => by
    obtain ⟨o, e, _⟩ := T.obj _ _ stb b hb
    have lt := Heap.lt_size e
    refine ⟨⟨?_, (fb b hb).2⟩, Nat.lt_trans lt hsz⟩
    rw [upd_ne (by rw [hL]; exact Nat.ne_of_lt lt)]
    exact (fb b hb).1
  have Id := startH Ic ok hN fc
  have pg := hg sc (upd Hb L (.lst [])) sc.heap.objs.size (cellsFrom (sc.heap.objs.size + 1) scope.names (cloFrom X.env.cells scope.names [])) fp
  have pt := ht sc (upd Hb L (.lst [])) sc.heap.objs.size (cellsFrom (sc.heap.objs.size + 1) scope.names (cloFrom X.env.cells scope.names [])) fp
  have pe := he sc (upd Hb L (.lst [])) sc.heap.objs.size (cellsFrom (sc.heap.objs.size + 1) scope.names (cloFrom X.env.cells scope.names [])) fp
  have hot := hHot sc (upd Hb L (.lst [])) (compEnvC scope (cellsFrom (sc.heap.objs.size + 1) scope.names (cloFrom X.env.cells scope.names [])) sc.heap.objs.size X.env) fp
  have std : tn 0 (pushCells (sc.heap.push { cls := .type "dict", data := .dict #[] }) scope.names) := T.keep _ _ _ stb fun b _ o e => pushCells_keeps _ _ _ _ (Heap.get?_push_of_some _ (kbc b o e))
  rw [← hL, ← hsc]
  show codeAny _ _ (.compStart (.ListComp elt [⟨tg, iter, ifs, 0⟩] scope pos) 0 (.ref it) (.ref L) (compEnvC scope (cellsFrom (sc.heap.objs.size + 1) scope.names (cloFrom X.env.cells scope.names [])) sc.heap.objs.size X.env)) (compPost (model X.prog X.w) X.A X.xe none _ (.ref L) sc.heap.objs.size)
    { sc with heap := pushCells (sc.heap.push { cls := .type "dict", data := .dict #[] }) scope.names }
  obtain ⟨ce, hce⟩ : ∃ ce, ce = compEnvC scope (cellsFrom (sc.heap.objs.size + 1) scope.names (cloFrom X.env.cells scope.names [])) sc.heap.objs.size X.env := ⟨_, rfl⟩
  have hcl : ce.locals = sc.heap.objs.size := by rw [hce]; rfl
  rw [← hce] at Id pg pt pe hot ⊢
  obtain ⟨Hc, hHc⟩ : ∃ Hc, Hc = upd Hb L (.lst []) := ⟨_, rfl⟩
  rw [← hHc] at Ic Id pg pt pe hot w0 fc
  obtain ⟨sd, hsd⟩ : ∃ sd : Shared, sd = { sc with heap := pushCells (sc.heap.push { cls := .type "dict", data := .dict #[] }) scope.names } := ⟨_, rfl⟩
  rw [← hsd] at Id ⊢
  have std : tn 0 sd.heap := by rw [hsd]; exact std
  let Y := blkH X sc Hc scope ce fp
  have fpY : ∀ {τ : St} {H' : Hp} {s' : Shared}, Inv Y [] τ H' s' → (∀ b ∈ fp, H' b = none) → ∀ b ∈ fp, FpOk Y [] H' b := fun {τ H' s'} I' hn b hb => by
    refine ⟨hn b hb, (I'.ok.exf b hb).1, I'.ok.exfs b hb, .inl hb, fun x c e => (I'.ok.exf b hb).2 x c e, fun p hp => ?_⟩
    have hp : p ∈ X.pn := by simpa using (show p ∈ X.pn ++ [] from hp)
    exact (fc b hb).1.2.2.2.2.2 p (List.mem_append_left _ hp)
  have loop : codeAny (model X.prog X.w) X.A (.compLoop (.ListComp elt [⟨tg, iter, ifs, 0⟩] scope pos) 0 (.ref it) (.ref L) ce) (compPost (model X.prog X.w) X.A X.xe none (fun v s' => ∃ x H', Inv X pins σ H' s' ∧ RelV x v ∧ Q x H') (.ref L) sc.heap.objs.size) sd := by
    refine compLoop_any (fun n s' => ∃ i H', Wv i n H' ∧ Inv Y [] (L2.wipe σ (own.map (·.2))) H' s' ∧ tn i s'.heap ∧ ∀ b ∈ fp, H' b = none) ?_ m0 ⟨0, Hc, w0, Id, std, fun b hb => (fc b hb).1.1⟩
    rintro n s5 ⟨i, H5, w5, I5, st5, n5⟩
    rcases turn i n H5 w5 with ⟨stop, fin⟩ | ⟨go, Nxt, hNxt, step⟩
    · refine thnF (T.done Y rfl rfl rfl hot i [] s5 _ H5 (fun _ _ => False) I5 (fpY I5 n5) st5 stop) fun r s6 hr => ?_
      obtain ⟨rfl, I6⟩ := hr
      have back : Inv X pins σ H5 s6 := Ic.call' (ch := fp) I6.os I6.base I6.hok I6.bare fun b hb => by
        obtain ⟨_, f1, _, f3, f4, f5⟩ := (fc b hb).1
        exact ⟨f3, f1, f4, f5⟩
      have nC : H5 sc.heap.objs.size = none := by rw [← hcl]; exact I6.free
      obtain ⟨mm, hmm, _⟩ := I6.loc
      have hmm : s6.heap.Ns ce.locals mm := hmm
      rw [hcl] at hmm
      refine ⟨mm, hmm, fun h' but => ?_⟩
      obtain ⟨f0, f1, f2, f3, f4, f5⟩ := Ic.fpOk (Nat.le_refl _) nC
      exact ⟨.ref L, H5, back.turned (t' := s6.toks) (fun b o hb e => (but.2 b hb).trans e) f0 f1 f3 f4 f5, rfl, fin⟩
    · refine thnF (T.item Y rfl rfl rfl hot i [] s5 _ H5 (fun _ _ => False) I5 (fpY I5 n5) st5 go) fun r s6 hr => ?_
      obtain ⟨u, rfl, h6⟩ := hr
      refine thnF h6 fun _ s7 h7 => ?_
      obtain ⟨x, H7, I7, r7, y7, st7, n7⟩ := h7
      have Ip := I7.pinned (fpY I7 n7) (T.obj _ _ st7)
      refine thnF (pg.run _ s7 _ H7 x u _ Ip r7 (step x H7 y7)) fun _ s8 h8 => ?_
      obtain ⟨τ, H8, I8, wp8, q8⟩ := h8
      refine thnF (pt.run _ s8 τ H8 _ I8 q8) fun b s9 h9 => ?_
      obtain ⟨H9, I9, q9⟩ := h9
      have again : ∀ {s' : Shared} {H' : Hp}, Inv Y ([] ++ pinsAt fp s7.heap) τ H' s' → Nxt H' → ∃ m, m < n ∧ ∃ i H', Wv i m H' ∧ Inv Y [] (L2.wipe σ (own.map (·.2))) H' s' ∧ tn i s'.heap ∧ ∀ b ∈ fp, H' b = none := fun {s' H'} I' nx => by
        obtain ⟨m', hm, w'⟩ := hNxt H' nx
        have kept : ∀ b ∈ fp, ∀ o, s7.heap.get? b = some o → s'.heap.get? b = some o ∧ H' b = none := fun b hb o e => by
          have z := I'.pin (b, o) (List.mem_append_right _ (List.mem_append_right _ (mem_pinsAt hb e)))
          exact ⟨z.1, z.2.1⟩
        have ln : (L2.wipe σ (own.map (·.2))).length = τ.length := by rw [← wp8, wipe_length]
        refine ⟨m', hm, i + 1, H', w', (I'.unpinned (pins := [])).weak ln (fun j v e => ?_), T.keep _ _ _ st7 fun b hb o e => (kept b hb o e).1, fun b hb => ?_⟩
        · rw [← wp8] at e
          exact (wipe_some e).1
        · obtain ⟨o, e, _⟩ := T.obj _ _ st7 b hb
          exact (kept b hb o e).2
      cases b with
      | false => exact again I9 q9
      | true =>
        refine thnF (pe.run _ s9 τ H9 _ I9 q9) fun z s10 h10 => ?_
        obtain ⟨yv, H10, I10, r10, acc, hL10, hz10, nx⟩ := h10
        exact app_ok (X := Y) I10 hL10 hz10 r10 fun s11 I11 => again I11 nx
  exact codeAny_compStart_list loop (T.self X.A 0 _ _ _ std loop)
end
section
variable {X : Cx} {W : WX} {a0 : Addr} {cn : Str} {d0 : Option Addr} {pos : Pos}
variable {elt tg iter : Expr} {ifs : List Expr} {scope : Scope} {own : List (Str × Nat)} {fi : Env → Sto → Rs IDt} {g : GD} {c : BD} {f : ED}
theorem de_lcH (hx : HX X a0 cn d0) (hN : X.N.Nodup) (hi : DIH X W tg iter fi) (ok : BlkOk X.N X.env.scope scope own)
    (hg : ∀ (s : Shared) (H : Hp) (C : Addr) (cl : List (Str × Addr)) (fp : List Addr), DGw (blkH X s H scope (compEnvC scope cl C X.env) fp) tg (own.map fun x => x.2) g)
    (ht : ∀ (s : Shared) (H : Hp) (C : Addr) (cl : List (Str × Addr)) (fp : List Addr), DTs (blkH X s H scope (compEnvC scope cl C X.env) fp) (fun _ _ _ _ => False) ifs c)
    (he : ∀ (s : Shared) (H : Hp) (C : Addr) (cl : List (Str × Addr)) (fp : List Addr), DE (blkH X s H scope (compEnvC scope cl C X.env) fp) (fun _ _ _ _ => False) elt f)
    (hs : ∀ x, foldedSetIterable iter X.env x = pure x := by intro _; rfl) : DE X W (.ListComp elt [⟨tg, iter, ifs, 0⟩] scope pos) (eLc fi g c f (own.map fun x => x.2)) := by
  obtain ⟨wi, pi, ii⟩ := hi
  exact ⟨_, @pe_lcH X scope own elt tg iter ifs pos wi (canG X (List.map (fun (x : Str × Nat) => x.2) own) g) (can X (fun _ _ _ _ => False) RB c) (can X (fun _ _ _ _ => False) RD f) hx.hot hN pi ok (fun s H C cl fp => (hg s H C cl fp).run) (fun s H C cl fp => (ht s H C cl fp).run) (fun s H C cl fp => (he s H C cl fp).can) hs, imp_lc ii⟩
end
theorem roomH_mark {j : Nat} {A : Around} {v : Option Value} (r : Room j A) : L2H.RoomH j (A.mark v) := ⟨r.dp, r.un⟩
end DL
namespace DL
open PySem PySem.Spec PyProof.Rows L2
def soloD (S S' : Sto) : D → Option (List PyData)
  | .ob n => (match S'[n]? with | some (.lst l) => if S.length ≤ n then pAll l else none | _ => none)
  | _ => none
open Classical in
noncomputable def pick (S S' : Sto) (d : D) : Rs D :=
  if S.length ≤ S'.length ∧ ClS S.length (S'.take S.length) ∧ ClD S.length d then .ok d (S'.take S.length)
  else if (soloD S S' d).isSome = true ∧ S.length ≤ S'.length ∧ ClS S.length (S'.take S.length) then .ok (.ob S.length) (S'.take S.length ++ [.lst (((soloD S S' d).getD []).map .p)])
  else if S.length ≤ S'.length ∧ ClS S'.length S' ∧ ClD S'.length d then .ok d S' else .st
open Classical in
noncomputable def pickX (S S' : Sto) (x : Xc) : Rs D := if S.length ≤ S'.length ∧ ClS S.length (S'.take S.length) then .ex x (S'.take S.length) else .st
noncomputable def gB (N : List Str) (F : SD) : FD := fun ds S => match F (start0 N ds) S with
  | .rt d S' => pick S S' d
  | .nx _ S' => pick S S' .non
  | .ex x _ S' => pickX S S' x
  | _ => .st
theorem gB_dn (N : List Str) (F : SD) (ds : List D) (S : Sto) : Dn S (F (start0 N ds) S) (gB N F ds S) := by
  unfold gB
  cases e : F (start0 N ds) S with
  | st => trivial
  | bk _ _ => trivial
  | ct _ _ => trivial
  | rt d S' =>
    show Dn S _ (pick S S' d)
    unfold pick
    split
    · rename_i h
      have hl : (S'.take S.length).length = S.length := by rw [List.length_take]; omega
      exact ⟨by rw [hl]; exact Nat.le_refl _, by rw [hl]; exact h.2.1, by rw [hl]; exact h.2.2, .inl ⟨S'.drop S.length, by rw [List.take_append_drop]⟩⟩
    · split
      · rename_i h
        obtain ⟨h1, h2, h3⟩ := h
        cases es : soloD S S' d with
        | none => rw [es] at h1; cases h1
        | some l =>
          unfold soloD at es
          split at es
          · rename_i n0 hno0
            split at es
            · rename_i l0 en
              split at es
              · rename_i hn
                have e0 := pAll_some es
                subst e0
                have hl : (S'.take S.length).length = S.length := by rw [List.length_take]; omega
                rw [Option.getD_some]
                refine ⟨by simp [hl], fun o ho => ?_, by show _ < _; simp [hl], .inr (.inr ⟨n0, l, S', rfl, hn, en, h2, h3, rfl, rfl⟩)⟩
                rcases List.mem_append.mp ho with z | z
                · have q := h3 o z
                  have hk : S.length ≤ (S'.take S.length ++ [O.lst (l.map .p)]).length := by simp [hl]
                  cases o with
                  | lst l => exact fun d hd => (fun {d} (q : ClD S.length d) => show ClD _ d from by cases d <;> first | trivial | exact Nat.lt_of_lt_of_le q hk) (q d hd)
                  | fz l => trivial
                  | dic l => exact fun d hd => (fun {d} (q : ClD S.length d) => show ClD _ d from by cases d <;> first | trivial | exact Nat.lt_of_lt_of_le q hk) (q d hd)
                  | dik l => exact fun d hd => (fun {d} (q : ClD S.length d) => show ClD _ d from by cases d <;> first | trivial | exact Nat.lt_of_lt_of_le q hk) (q d hd)
                  | ins c l => exact fun d hd => (fun {d} (q : ClD S.length d) => show ClD _ d from by cases d <;> first | trivial | exact Nat.lt_of_lt_of_le q hk) (q d hd)
                  | lck => trivial
                  | lkd l => trivial
                · rw [List.mem_singleton.mp z]
                  intro d hd
                  obtain ⟨p, _, rfl⟩ := List.mem_map.mp hd
                  trivial
              · cases es
            · cases es
          · cases es
      · split
        · rename_i h
          exact ⟨h.1, h.2.1, h.2.2, .inl ⟨[], by rw [List.append_nil]⟩⟩
        · trivial
  | nx ρ S' =>
    show Dn S _ (pick S S' .non)
    unfold pick
    split
    · rename_i h
      have hl : (S'.take S.length).length = S.length := by rw [List.length_take]; omega
      exact ⟨by rw [hl]; exact Nat.le_refl _, by rw [hl]; exact h.2.1, by rw [hl]; exact h.2.2, .inr (.inl ⟨rfl, ρ, S'.drop S.length, by rw [List.take_append_drop]⟩)⟩
    · split
      · rename_i h
        cases h.1
      · split
        · rename_i h
          exact ⟨h.1, h.2.1, h.2.2, .inr (.inl ⟨rfl, ρ, [], by rw [List.append_nil]⟩)⟩
        · trivial
  | ex x ρ S' =>
    show Dn S _ (pickX S S' x)
    unfold pickX
    split
    · rename_i h
      have hl : (S'.take S.length).length = S.length := by rw [List.length_take]; omega
      exact ⟨by rw [hl]; exact Nat.le_refl _, by rw [hl]; exact h.2, ρ, S'.drop S.length, by rw [List.take_append_drop]⟩
    · trivial
theorem take_left' {S2 T : Sto} {n : Nat} (h : S2.length = n) : (S2 ++ T).take n = S2 := by rw [← h, List.take_left']; rfl
theorem gB_rt {N : List Str} {F : SD} {ds : List D} {S S2 T : Sto} {d : PyData} (e : F (start0 N ds) S = .rt (.p d) (S2 ++ T)) (hl : S2.length = S.length) (hc : ClS S.length S2) : gB N F ds S = .ok (.p d) S2 := by
  unfold gB
  rw [e]
  show pick S (S2 ++ T) (.p d) = _
  unfold pick
  rw [take_left' hl, if_pos ⟨by rw [List.length_append]; omega, hc, trivial⟩]
section
variable {P : Program} {w : World} {K : PySem.W.Frag} {mg : Str → Option Value} {base : Heap}
abbrev FunS (K : PySem.W.Frag) (x : Str) (st : Stmt) (f : Addr) (fd : FuncData) : Prop := FunD K x x (defArgs st) (defBody st) (defScope st) [] [] f fd
abbrev BindsAs (x : Str) (st : Stmt) (ps : List Str) : Prop := ∀ (kV doc pm : Value) (an : Option Addr) (cdv ct : Value) (us : List Value), us.length = ps.length → bindArgs (PySem.W.fnOf x x (defArgs st) (defBody st) (defScope st) .none kV doc pm an cdv ct) ⟨us, []⟩ = pure (ps.zip us)
theorem fn_dl {x : Str} {st : Stmt} {f : Addr} {fd : FuncData} {N ps : List Str} {k n : Nat} {F : SD} (Fu : FunS K x st f fd) (Sc : FnScope N ps (defScope st)) (gm : mg x = some (.ref f)) (bd : BindsAs x st ps) (hn : ps.length = n)
    (body : ∀ (cdv : Value) (A : Around) (outer : List PySem.Env) (s : Shared) (H : Hp) (E : XK), Room k (A.deeper (envOfC x (defScope st) s.heap.objs.size f cdv)) →
      DSs (cxOf CX0 P w K mg base N x (defScope st) f cdv A outer s H E).nox (fun _ _ _ _ => False) (defBody st) F) : FnD P w K mg base (k + 1) x n (gB N F) := by
  refine ⟨f, fd, ps, hn, gm, Fu.kp, Fu.bindsN bd, Fu.ok (CX := CX0) Sc (fun vs H Q E h => h.1.trans hn.symm) fun cdv A outer s H vs Q E hr h => ?_⟩
  obtain ⟨hl, κ, ds, S, m, rl, rd, po⟩ := h
  obtain ⟨t, pt, it⟩ := body cdv A outer s H E hr
  refine ⟨t, pt.nox, it κ (start0 N ds) S (L2.start N vs) H m _ rl (RE_start rd) ?_⟩
  refine post_of (E := fun _ _ _ => False) rl (gB_dn N F ds S) ?_ (fun _ _ _ _ z => z)
  have po : PostF ⟨K, κ, mg⟩ mg m S H (noEx (gB N F ds S)) Q E := po
  cases e : gB N F ds S with
  | st => rw [e] at po; exact po.elim
  | ok d S' => rw [e] at po; exact po
  | ex y S' => rw [e] at po; exact po.elim
theorem fn_dlN {x : Str} {st : Stmt} {f : Addr} {fd : FuncData} {N ps : List Str} {k n : Nat} {F : SD} (Fu : FunS K x st f fd) (Sc : FnScope N ps (defScope st)) (gm : mg x = some (.ref f)) (bd : BindsAs x st ps) (hn : ps.length = n)
    (body : ∀ (cdv : Value) (A : Around) (outer : List PySem.Env) (s : Shared) (H : Hp) (E : XK), Room k (A.deeper (envOfC x (defScope st) s.heap.objs.size f cdv)) →
      DSs (cxOf (L2N.CX P w) P w K mg base N x (defScope st) f cdv A outer s H E) (fun cls d _ H => E cls d H) (defBody st) F) : FnN P w K mg base (k + 1) x n (gB N F) := by
  refine ⟨f, fd, ps, hn, gm, Fu.kp, Fu.bindsN bd, Fu.ok (CX := L2N.CX P w) Sc (fun vs H Q E h => h.1.trans hn.symm) fun cdv A outer s H vs Q E hr h => ?_⟩
  obtain ⟨hl, κ, ds, S, m, rl, rd, po⟩ := h
  obtain ⟨t, pt, it⟩ := body cdv A outer s H E hr
  refine ⟨t, pt, it κ (start0 N ds) S (L2.start N vs) H m _ rl (RE_start rd) ?_⟩
  exact post_of (E := E) rl (gB_dn N F ds S) po (fun _ _ _ _ z => z)
theorem fn_dlK {x : Str} {st : Stmt} {f : Addr} {fd : FuncData} {N ps : List Str} {k n : Nat} {cn : Str} {dk : Bool} {F : Addr → Option Addr → SD} (Fu : FunS K x st f fd) (Sc : FnScope N ps (defScope st)) (gm : mg x = some (.ref f)) (bd : BindsAs x st ps) (hn : ps.length = n)
    (body : ∀ (cdv : Value) (A : Around) (outer : List PySem.Env) (s : Shared) (H : Hp) (E : XK) (p : Addr × Obj) (d : Option Addr), d.isSome = dk → L2H.RoomH k (A.deeper (envOfC x (defScope st) s.heap.objs.size f cdv)) → HX (hotX P w K mg base N x st f cdv A outer s H E p) p.1 cn d →
      DSs (hotX P w K mg base N x st f cdv A outer s H E p) (fun _ _ _ _ => False) (defBody st) (F p.1 d)) : FnK P w K mg base (k + 1) x n cn dk (fun a d => gB N (F a d)) := by
  subst hn
  have key : ∀ (oc : Value) (od : Option Addr) (dV kV doc pm : Value) (an : Option Addr) (cdv ct : Value) (osl : Array (Option Value)), fd = PySem.W.fnOf x x (defArgs st) (defBody st) (defScope st) dV kV doc pm an cdv ct → K.lookup f = some ⟨oc, od, .func fd, osl⟩ → PySem.W.codeIn K cdv x = true → dV = .none → Fun K x x st f fd := by
    rintro oc od dV kV doc pm an cdv ct osl rfl l c rfl
    exact ⟨⟨oc, od, kV, doc, pm, an, cdv, ct, osl, rfl, l, c⟩, Fu.kp⟩
  obtain ⟨oc, od, dV, kV, doc, pm, an, cdv, ct, osl, e, l, c, dv, _⟩ := Fu.ex
  have hdV : dV = .none := by
    rcases dv with ⟨_, h⟩ | ⟨h, _⟩
    · exact h
    · exact absurd rfl h
  exact Fun.dlK (key oc od dV kV doc pm an cdv ct osl e l c hdV) Sc gm (Fu.bindsN bd) body (fun a d ds S _ _ _ => gB_dn N (F a d) ds S)
end
section
variable {P : Program} {w : World} {K : PySem.W.Frag} {mg : Str → Option Value} {base : Heap}
theorem fnD_st {x : Str} {st : Stmt} {f : Addr} {fd : FuncData} {ps : List Str} {k n : Nat} (Fu : FunS K x st f fd) (gm : mg x = some (.ref f)) (bd : BindsAs x st ps) (hn : ps.length = n) : FnD P w K mg base k x n (fun _ _ => .st) := by
  refine ⟨f, fd, ps, hn, gm, Fu.kp, Fu.bindsN bd, ⟨fun vs H Q E h => h.1.trans hn.symm, fun A outer s H ar us vs Q E hr e0 hb r h => ?_⟩⟩
  obtain ⟨_, _, _, _, _, _, _, po⟩ := h
  exact po.elim
theorem fn_okS {x : Str} {st : Stmt} {f : Addr} {fd : FuncData} {N ps : List Str} {k n : Nat} {F : SD} (Fu : FunS K x st f fd) (Sc : FnScope N ps (defScope st))
    (body : ∀ (cdv : Value) (A : Around) (outer : List PySem.Env) (s : Shared) (H : Hp) (E : XK), Room k (A.deeper (envOfC x (defScope st) s.heap.objs.size f cdv)) →
      DSs (cxOf CX0 P w K mg base N x (defScope st) f cdv A outer s H E).nox (fun _ _ _ _ => False) (defBody st) F) (hn : ps.length = n := by rfl) : FnOk P w K mg base CX0 (k + 1) f fd ps (spOf K mg n fun ds S => noEx (gB N F ds S)) := by
  refine Fu.ok (CX := CX0) Sc (fun vs H Q E h => h.1.trans hn.symm) fun cdv A outer s H vs Q E hr h => ?_
  obtain ⟨hl, κ, ds, S, m, rl, rd, po⟩ := h
  obtain ⟨t, pt, it⟩ := body cdv A outer s H E hr
  refine ⟨t, pt.nox, it κ (start0 N ds) S (L2.start N vs) H m _ rl (RE_start rd) ?_⟩
  refine post_of (E := fun _ _ _ => False) rl (gB_dn N F ds S) ?_ (fun _ _ _ _ z => z)
  have po : PostF ⟨K, κ, mg⟩ mg m S H (noEx (gB N F ds S)) Q E := po
  cases e : gB N F ds S with
  | st => rw [e] at po; exact po.elim
  | ok d S' => rw [e] at po; exact po
  | ex y S' => rw [e] at po; exact po.elim
theorem funS_same {x : Str} {st : Stmt} {f : Addr} {fd fd' : FuncData} (a : FunS K x st f fd) (b : FunS K x st f fd') : fd = fd' := by
  obtain ⟨_, _, _, _, _, _, _, _, _, _, _, l1, _⟩ := a.ex
  obtain ⟨_, _, _, _, _, _, _, _, _, _, _, l2, _⟩ := b.ex
  have e := l1.symm.trans l2
  injection e with e
  injection e with _ _ e _
  injection e
end
def asM (g : Addr → Option Obj) (n : Nat) : List Addr := He.asD g n ++ [cStatics]
def hookM (n : Nat) (fa : List He.Fa) (fn : List He.DefD) (more : PySem.W.Frag → Bool) : PySem.W.Hook where
  α := He.AlD × Bool
  obs := fun s => (He.obsD fa fn (He.frG s.heap.get? (asM s.heap.get? n)), more (He.frG s.heap.get? (asM s.heap.get? n)))
  val := fun _ => (He.valD fn, true)
  says := fun _ h => ∃ K : PySem.W.Frag, K.In h ∧ He.SaysD fa fn K ∧ more K = true
  of := fun _ _ e => ⟨_, He.frG_in, congrArg Prod.fst e, congrArg Prod.snd e⟩
  keeps := fun _ _ _ ⟨K, hK, c⟩ k => ⟨K, PySem.W.Frag.In.keeps hK k, c⟩
def obM (n : Nat) (fa : List He.Fa) (fn : List He.DefD) (more : PySem.W.Frag → Bool) (s : PySem.W.SharedT) : He.AlD × Bool := (He.obsD fa fn (He.frG (HandSHeadRun.getT s) (asM (HandSHeadRun.getT s) n)), more (He.frG (HandSHeadRun.getT s) (asM (HandSHeadRun.getT s) n)))
theorem obM_eq {n : Nat} {fa : List He.Fa} {fn : List He.DefD} {more : PySem.W.Frag → Bool} (s : PySem.W.SharedT) : obM n fa fn more s = (hookM n fa fn more).obs s.abs := by
  have e : HandSHeadRun.getT s = s.abs.heap.get? := funext (HandSHeadRun.getT_eq s)
  unfold obM
  rw [e]
  rfl
def excB (K : PySem.W.Frag) (D0 : Addr) : Bool :=
  He.eqO (PySem.W.findIn K (.ref D0) "__getattribute__") (some (some (.builtin "BaseException.__getattribute__"))) && (He.eqO (PySem.W.findIn K (.ref D0) "__getattr__") (some none) && (decide (PySem.W.subIn K (.ref D0) (.type "BaseException") = some true) && (PySem.W.hasDictIn K D0 &&
  (He.eqO (PySem.W.findIn K (.ref D0) "__class__") (some (some (.builtin "object.__class__"))) && (He.eqO (PySem.W.specialIn K (.builtin "object.__class__") "__get__") (some (some (.builtin "getset_descriptor.__get__"))) && (decide (PySem.W.takesIn K (.builtin "object.__class__") = some true) && decide (PySem.W.mroIn K D0 (.type "object") = some true)))))))
theorem excB_ok {K : PySem.W.Frag} {D0 : Addr} (h : excB K D0 = true) : ExcC K D0 := by
  unfold excB at h
  simp only [Bool.and_eq_true] at h
  obtain ⟨h1, h2, h3, h4, h5, h6, h7, h8⟩ := h
  exact ⟨He.eqO_ok h1, He.eqO_ok h2, of_decide_eq_true h3, h4, He.eqO_ok h5, He.eqO_ok h6, of_decide_eq_true h7, of_decide_eq_true h8⟩
def kitB1 (K : PySem.W.Frag) (a : Value) (c : Value) (b : Bool) : Bool := decide (PySem.W.kitOne K a c = some b)
theorem law_sp {K : PySem.W.Frag} {mg : Str → Option Value} {g : FD} {H : Hp} {a : Addr} {ns : List Int} {S' : Sto} (hO : Only H) (hS : SqL K H a (ns.map V.int)) (e : g [.scr ns] [] = .ok (.bl true) S') :
    spOf K mg 1 (fun ds S => noEx (g ds S)) [.ref a] H (fun v _ => v = .bl true) (fun _ _ _ => False) := by
  refine ⟨rfl, fun _ => False, [.scr ns], [], [], ⟨rfl, List.nodup_nil, fun _ h => h.elim, fun n a o h => by simp at h⟩, .cons ⟨a, rfl, ?_⟩ .nil, ?_⟩
  · rcases hS with (h | ⟨o, h⟩) | h
    · rcases hO a with z | ⟨o, xs, z⟩
      · rw [z] at h; cases h
      · rw [z] at h; cases h
    · exact .inl ⟨o, h⟩
    · exact .inr (.inr h)
  · show PostF _ _ _ _ _ (noEx (g [.scr ns] [])) _ _
    rw [e]
    intro v H' m' _ _ r
    have r : RP _ _ _ _ _ := r
    rw [RP] at r
    exact r
end DL
namespace DL
open PySem PySem.Spec PyProof.Rows L2
def oexB (K : PySem.W.Frag) (C : Addr) : Bool := (match K.lookup C with
  | some ⟨.type t, _, .cls cd, sl⟩ => (match cd.mro, sl.toList with
    | .ref c0 :: bm, [_, _, _, _, some (.builtin n), _] => decide (t = "type") && (decide (c0 = C) && (decide (n = "ValueError.__new__") && (!cd.hasDel && (cd.hasDict && PySem.HandSPX.refsVE bm))))
    | _, _ => false)
  | _ => false) && (He.eqO (PySem.W.findIn K (.ref C) "__setattr__") (some (some (.builtin "object.__setattr__"))) && (decide (PySem.W.subIn K (.ref C) (.type "BaseException") = some true) && (decide (PySem.W.typeIn K (.ref C) = some (.type "type")) && PySem.W.keepIn K (.ref C))))
theorem oexB_ok {K : PySem.W.Frag} {C : Addr} (h : oexB K C = true) : OexC K C := by
  unfold oexB at h
  simp only [Bool.and_eq_true] at h
  obtain ⟨h1, h2, h3, h4, h5⟩ := h
  refine ⟨?_, He.eqO_ok h2, of_decide_eq_true h3, of_decide_eq_true h4, h5⟩
  split at h1
  · rename_i t dd cd sl hk
    split at h1
    · rename_i c0 bm k0 k1 k2 k3 n k5 hm hs
      simp only [Bool.and_eq_true, decide_eq_true_eq, Bool.not_eq_true'] at h1
      obtain ⟨rfl, rfl, rfl, hdel, hd, hv⟩ := h1
      obtain ⟨nm, bs, mro, ns, qn, hdct, sn, sub, ab, col, del⟩ := cd
      dsimp only at hm hdel hd
      subst hm hdel hd
      have hsl : sl = #[k0, k1, k2, k3, some (.builtin "ValueError.__new__"), k5] := by
        obtain ⟨l⟩ := sl
        simp only at hs
        rw [hs]
      subst hsl
      exact ⟨nm, qn, ns, bs, bm, sn, sub, ab, col, dd, k0, k1, k2, k3, k5, hk, hv⟩
    · cases h1
  · cases h1
section
variable {X : Cx} {e : Expr} {es : List Expr} {ta : TA} {p1 p2 pos : Pos}
theorem pe_clsinit {pl : Sem Bool} {x : Str} {P0 : Addr} (hg : Gl X x) (hm : X.mg x = some (.ref P0)) (hr : PySem.W.readsIn X.K P0 (.type "type") = true) (vV : PySem.W.findCls X.K (.ref P0) (.type "type") "__init__" = some (.val (.builtin "ValueError.__init__")))
    (hs : PySem.W.specialIn X.K (.ref P0) "__getattribute__" = some (some (.builtin "type.__getattribute__"))) (ha : PA X (e :: es) ta)
    (hc : eval (.Call (.Attribute (.Name x p1) "__init__" p2) (e :: es) [] pos) X.env = (do
      let ov ← eval (.Name x p1) X.env
      standAt p2.atName
      let (f, first) ← holding [ov] (getMethod ov "__init__" pl)
      callWith pos f first (backTo pos (starEach (e :: es) X.env)) (backToKw pos (keywordEach [] X.env))) := by rfl)
    (he : starEach (e :: es) X.env = (false, eval e X.env) :: starEach es X.env := by rfl) (hpl : (backTo pos (starEach es X.env)).any (·.1) = false := by rfl) (hd : (x == ("__debug__" : Str)) = false := by decide) :
    PE X (.Call (.Attribute (.Name x p1) "__init__" p2) (e :: es) [] pos) (tVeI X.K ta) := by
  refine ⟨fun pins s σ H Q I hw => ?_⟩
  refine PySem.W.methodCall_KW (ld_glob I hg hm ?_ hd) hc
  refine PySem.W.method_cls I.kIn hs (PySem.W.cls_value I.kIn hr vV (by decide +kernel) ?_)
  show wpAny _ _ (callWith pos (Value.builtin "ValueError.__init__") [] (backTo pos (starEach (e :: es) X.env)) []) _ _ _
  refine PyProof.Rows.callWith_method1 (thn (ha.run pos pins _ σ H _ (I.tok _) hw) fun us s1 hv => ?_) he hpl
  obtain ⟨vs, H1, I1, r1, a, C, ws, rfl, hl, T, ea, q⟩ := hv
  rcases r1 with _ | ⟨r0, rr⟩
  cases r0
  exact oinit_ok T I1 ea (by rw [← Paired.length rr, sizeLine_eq]; omega) fun s' J => ⟨.non, H1, J, rfl, q⟩
end
def scalP : D → Option PyData
  | .p (.int i) => some (.int i)
  | .p (.str x) => some (.str x)
  | .p (.bool b) => some (.bool b)
  | _ => none
def scalL : List D → Option (List PyData)
  | [] => some []
  | d :: ds => match scalP d, scalL ds with
    | some p, some ps => some (p :: ps)
    | _, _ => none
theorem scalL_ok {K : Kh} {m : List Addr} {S : Sto} {H : Hp} : ∀ {ds : List D} {vs : List V} {ps : List PyData}, RDs K m S H ds vs → scalL ds = some ps → vs = ps.map sV
  | [], vs, ps, r, e => by
    cases r
    cases e
    rfl
  | d :: ds, vs, ps, r, e => by
    rcases r with _ | ⟨r1, r2⟩
    unfold scalL at e
    split at e
    · rename_i p ps' e1 e2
      cases e
      rw [List.map_cons, ← scalL_ok r2 e2]
      congr 1
      unfold scalP at e1
      split at e1
      · cases e1
        have r1 : RP _ _ _ _ _ := r1
        rw [RP] at r1; exact r1
      · cases e1
        have r1 : RP _ _ _ _ _ := r1
        rw [RP] at r1; exact r1
      · cases e1
        have r1 : RP _ _ _ _ _ := r1
        rw [RP] at r1; exact r1
      · cases e1
    · cases e
def spInit (C : Addr) (n : Nat) (flds : List PyData → List (Str × PyData)) (ok : List PyData → Bool) : Sp := fun vs H Q _ => vs.length = n + 1 ∧ ∃ a ps, vs = .ref a :: ps.map sV ∧ ok ps = true ∧ H a = some (exo a C none) ∧
  ∀ d, H d = none → d ≠ a → Q .non (upd (upd H d (exd d (sVs (flds ps)))) a (exo a C (some d)))
section
variable {X : Cx} {e : Expr} {es : List Expr} {ta : TA} {p pos : Pos}
theorem pmk_oexN {x : Str} {C fI : Addr} {k : Nat} {fd : FuncData} {ps : List Str} {sp : Sp} (T : OexC X.K C) (iC : PySem.W.findIn X.K (.ref C) "__init__" = some (some (.ref fI))) (tI : PySem.W.typeIn X.K (.ref fI) = some (.type "function"))
    (F1 : FnOk X.prog X.w X.K X.mg X.base CX0 k fI fd ps sp) (hr : Room (k + 1) X.A) (hb : Binds X.K fd ps []) (hg : Gl X x) (hm : X.mg x = some (.ref C)) (ha : PA X (e :: es) ta)
    (hdb : (x == ("__debug__" : Str)) = false := by decide) (he : starEach (e :: es) X.env = (false, eval e X.env) :: starEach es X.env := by rfl) (hpl : (backTo pos (starEach es X.env)).any (·.1) = false := by rfl) :
    L2N.PMk X (.Call (.Name x p) (e :: es) [] pos) (tMkO C sp [] ta) := by
  intro pins s σ H Q I hw
  obtain ⟨nm, q, N, bs, bm, sn, sub, ab, col, dd, k0, k1, k2, k3, k5, hC, hbm⟩ := T.cls
  refine wpAny_Call_Name_kw (ld_glob I hg hm ?_ hdb)
  refine PySem.W.callWith_K (h₀ := X.base) I.ok.mod.kin T.kC (thn (ha.run pos pins s σ H _ I hw) fun us s1 hv => ?_) he hpl
  obtain ⟨vs, H1, I1, r1, hz, q1⟩ := hv
  refine ⟨I1.kIn, ?_⟩
  show wpAny _ _ (call (.ref C) us) _ _ _
  obtain ⟨hp, g, dr, tk, os⟩ := s1
  have up : hp.objs.size ≤ hp.objs.size + 1 := Nat.le_succ _
  have want := q1 (hp.objs.size + 1) (I1.hok.fresh up)
  rw [List.append_nil] at want
  have stay : ∀ b o, hp.get? b = some o → ((hp.push (PySem.W.kdv_tup us)).push (PySem.HandSPX.excO C hp.objs.size)).get? b = some o := fun b o e => Heap.get?_push_of_some _ (Heap.get?_push_of_some _ e)
  have here : ((hp.push (PySem.W.kdv_tup us)).push (PySem.HandSPX.excO C hp.objs.size)).get? (hp.objs.size + 1) = some (PySem.HandSPX.excO C hp.objs.size) := by heap_get
  have J2 := I1.laid (t' := tk) (a := hp.objs.size + 1) (o := exo (hp.objs.size + 1) C none) (h' := (hp.push (PySem.W.kdv_tup us)).push (PySem.HandSPX.excO C hp.objs.size)) stay up (exo_ok here)
  have rv : Vals (V.ref (hp.objs.size + 1) :: vs) (Value.ref (hp.objs.size + 1) :: us) := .cons rfl r1
  have len : (Value.ref (hp.objs.size + 1) :: us).length = ps.length := by rw [← F1.len _ _ _ _ want]; exact rv.length.symm
  have size : us.length ≤ sizeLine := by rw [← Paired.length r1, sizeLine_eq]; omega
  have bnd := hb ⟨(hp.push (PySem.W.kdv_tup us)).push (PySem.HandSPX.excO C hp.objs.size), g, dr, tk, os⟩ (Value.ref (hp.objs.size + 1) :: us) J2.kIn (by rw [List.append_nil]; exact len)
  rw [List.append_nil] at bnd
  refine wpAny_call (PySem.HandSPX.call_own F.excBase_ValueError (fun Y => PySem.HandSPX.refsVE_contains Y bm hbm) (I1.kIn _ _ hC) (PySem.W.looks_findIn I1.kIn iC) (fun self => PySem.W.bind_fn I1.kIn self tI) size
    (codeAny_mono (F1.run _ X.stack _ _ ⟨Value.ref (hp.objs.size + 1) :: us, []⟩ (Value.ref (hp.objs.size + 1) :: us) _ _ (fun _ _ _ => False) (hr.make C us []) (J2.env0.make C us []) bnd rv want) fun r s' hq => ?_))
  cases r with
  | error er => exact hq.elim
  | ok fl =>
    cases fl with
    | ret u =>
      obtain ⟨v, H2, os2, bare2, un2, hok2, ru, rfl, d, fs, ea, ed, hd1, q2⟩ := hq
      obtain ⟨h2, g2, d2, t2, os'⟩ := s'
      obtain ⟨t0, G, J, kG, ge, hoe, na⟩ := mk_end0 (d2 := d2) (t2 := t2) I1 up stay un2 hok2 os2 bare2 ea ed hd1
      exact ⟨ru, hp.objs.size + 1, _, _, ⟨G, g2, d2, t2, os'⟩, _, .ref C, some d, rfl, J, kG, ge, hoe, ⟨rfl, rfl, fun w e => by cases e; rfl⟩, rfl, rfl, na, rfl, bare2, raises_own T.exC T.tyC, q2⟩
    | next => exact hq.elim
    | brk => exact hq.elim
    | cont => exact hq.elim
def mMk (x : Str) (n : Nat) (flds : List PyData → List (Str × PyData)) (ok : List PyData → Bool) (ga : AD) : DL.Env → Sto → Rs Xc := fun ρ S => (ga ρ S).bind fun ds S1 => match scalL ds with
  | some ps => if ds.length = n ∧ ok ps = true ∧ (flds ps).isEmpty = false then .ok ⟨x, flds ps⟩ S1 else .st
  | none => .st
theorem dm_oex {x : Str} {C fI : Addr} {j k n : Nat} {fd : FuncData} {ps : List Str} {flds : List PyData → List (Str × PyData)} {ok : List PyData → Bool} {ga : AD} (T : OexC X.K C) (iC : PySem.W.findIn X.K (.ref C) "__init__" = some (some (.ref fI))) (tI : PySem.W.typeIn X.K (.ref fI) = some (.type "function"))
    (F1 : FnOk X.prog X.w X.K X.mg X.base CX0 k fI fd ps (spInit C n flds ok)) (hr : Room j X.A) (hk : k + 1 ≤ j) (hb : Binds X.K fd ps []) (hn2 : n ≤ 900) (hg : Gl X x) (hm : X.mg x = some (.ref C)) (ha : DA X (fun _ _ _ _ => False) (e :: es) ga)
    (hdb : (x == ("__debug__" : Str)) = false := by decide) (he : starEach (e :: es) X.env = (false, eval e X.env) :: starEach es X.env := by rfl) (hpl : (backTo pos (starEach es X.env)).any (·.1) = false := by rfl) :
    DM X (.Call (.Name x p) (e :: es) [] pos) (mMk x n flds ok ga) := by
  obtain ⟨t, q, i⟩ := ha
  refine ⟨_, pmk_oexN T iC tI F1 (hr.mono hk) hb hg hm q hdb he hpl, fun κ ρ S σ H m Q rl re h => ?_⟩
  refine i κ ρ S σ H m _ rl re ?_
  unfold mMk at h
  cases e1 : ga ρ S with
  | st => simp [e1] at h
  | ex _ _ => simp [e1] at h
  | ok ds S1 =>
    simp only [e1, Rs.bind_ok] at h
    intro vs H1 m1 x1 rl1 r1
    cases e2 : scalL ds with
    | none => simp [e2] at h
    | some qs =>
      simp only [e2] at h
      by_cases hok : ds.length = n ∧ ok qs = true ∧ (flds qs).isEmpty = false
      · rw [if_pos hok] at h
        obtain ⟨hl, hok, hne⟩ := hok
        have ev := scalL_ok r1 e2
        have vl : vs.length = n := by rw [← pairLen r1]; exact hl
        refine ⟨by omega, fun a na => ⟨by simp [vl], a, qs, by rw [List.append_nil, ev], hok, upd_same, fun d hd hda => ⟨rfl, d, sVs (flds qs), upd_same, ?_, ?_, ?_⟩⟩⟩
        · rw [upd_ne hda]; exact upd_same
        · rw [upd_ne hda] at hd; exact hd
        · have hd1 : H1 d = none := by rw [upd_ne hda] at hd; exact hd
          have eH : upd (del (upd (upd (upd H1 a (exo a C none)) d (exd d (sVs (flds qs)))) a (exo a C (some d))) a) d (.xd (sVs (flds qs))) = upd H1 d (.xd (sVs (flds qs))) := by
            funext b
            by_cases b1 : b = d
            · rw [b1, upd_same, upd_same]
            · rw [upd_ne b1, upd_ne b1]
              by_cases b2 : b = a
              · rw [b2, del_same, na]
              · rw [del_ne b2, upd_ne b2, upd_ne b1, upd_ne b2]
          rw [eH]
          exact h _ m1 (.ref C) (some d) (x1.trans (Nx.new rl1 hd1)) (rl1.new hd1) ⟨hm, .inr ⟨d, rfl, (fun z : flds qs = [] => by rw [z] at hne; cases hne), upd_same⟩⟩
      · rw [if_neg hok] at h
        exact h.elim
end
section
variable {X : Cx} {W : WX} {κ : Addr → Prop} {m : List Addr} {S : Sto} {H : Hp} {o e : Expr} {fo fe : ED} {pos apos : Pos}
end
def cinB (K : PySem.W.Frag) (P0 : Addr) : Bool := match PySem.W.findCls K (.ref P0) (.type "type") "__init__" with
  | some (.val (.builtin n)) => decide (n = "ValueError.__init__")
  | _ => false
theorem cinB_ok {K : PySem.W.Frag} {P0 : Addr} (h : cinB K P0 = true) : PySem.W.findCls K (.ref P0) (.type "type") "__init__" = some (.val (.builtin "ValueError.__init__")) := by
  unfold cinB at h
  split at h
  · rename_i n e
    rw [e, of_decide_eq_true h]
  · cases h
end DL
namespace DL
open PySem PySem.Spec PyProof.Rows L2
section
variable {X : Cx} {W : WX}
def bsD : List D → Option (List Bool)
  | [] => some []
  | .p (.bool b) :: l => (bsD l).map (b :: ·)
  | _ :: _ => none
def isD : List D → Option (List Int)
  | [] => some []
  | .p (.int b) :: l => (isD l).map (b :: ·)
  | _ :: _ => none
theorem bsD_map (bs : List Bool) : bsD (bs.map fun b => D.p (.bool b)) = some bs := by
  induction bs with
  | nil => rfl
  | cons b l ih => simp [bsD, ih]
theorem isD_map (bs : List Int) : isD (bs.map fun b => D.p (.int b)) = some bs := by
  induction bs with
  | nil => rfl
  | cons b l ih => simp [isD, ih]
def gBools (f : List Bool → Bool) : FD := fun ds S => match ds with
  | [d] => (match lItems S d with
    | some l => (match bsD l with
      | some bs => .ok (.bl (f bs)) S
      | none => .st)
    | none => .st)
  | _ => .st
def gAny : FD := gBools fun bs => bs.any id
def gAll : FD := gBools fun bs => bs.all id
def gSum : FD := fun ds S => match ds with
  | [d] => (match lItems S d with
    | some l => (match isD l with
      | some bs => .ok (.int bs.sum) S
      | none => .st)
    | none => .st)
  | _ => .st
end
end DL
namespace DL
open PySem PySem.Spec PyProof.Rows L2
def WE {α : Type} (r : Rs α) (Q : α → Sto → Prop) (E : Xc → Sto → Prop) : Prop := match r with
  | .st => False
  | .ok a S => Q a S
  | .ex x S => E x S
structure Wn where
  nx : Env → Sto → Prop
  rt : D → Sto → Prop
  bk : Env → Sto → Prop
  ct : Env → Sto → Prop
  ex : Xc → Env → Sto → Prop
def WS (o : Out) (P : Wn) : Prop := match o with
  | .st => False
  | .nx ρ S => P.nx ρ S
  | .rt d S => P.rt d S
  | .bk ρ S => P.bk ρ S
  | .ct ρ S => P.ct ρ S
  | .ex x ρ S => P.ex x ρ S
section
variable {α β : Type} {ρ : Env} {S S1 : Sto} {Q : α → Sto → Prop} {E : Xc → Sto → Prop} {P : Wn}
theorem WE_ok {a : α} : WE (.ok a S) Q E = Q a S := rfl
theorem WE_bind {r : Rs β} {f : β → Sto → Rs α} : WE (Rs.bind r f) Q E = WE r (fun a S => WE (f a S) Q E) E := by cases r <;> rfl
theorem WE_ite {c : Prop} [Decidable c] {r s : Rs α} : WE (if c then r else s) Q E = if c then WE r Q E else WE s Q E := by split <;> rfl
theorem WE_no {r : Rs D} {Q : D → Sto → Prop} : WE (noEx r) Q E = WE r Q (fun _ _ => False) := by cases r <;> rfl
theorem WE_of {r : Rs α} {a : α} (e : r = .ok a S) (q : Q a S) : WE r Q E := by rw [e]; exact q
theorem WE_mono {r : Rs α} {Q' : α → Sto → Prop} {E' : Xc → Sto → Prop} (h : WE r Q' E') (hq : ∀ a S, Q' a S → Q a S) (he : ∀ x S, E' x S → E x S) : WE r Q E := by
  cases r with
  | st => exact h
  | ok a S => exact hq _ _ h
  | ex x S => exact he _ _ h
theorem WE_get {r : Rs D} {Q : D → Sto → Prop} (h : WE r Q (fun _ _ => False)) : ∃ d S, r = .ok d S ∧ Q d S := by
  cases r with
  | st => exact h.elim
  | ok a S => exact ⟨a, S, rfl, h⟩
  | ex x S => exact h.elim
theorem WS_nx : WS (.nx ρ S) P = P.nx ρ S := rfl
theorem WS_rt {d : D} : WS (.rt d S) P = P.rt d S := rfl
theorem WS_bk : WS (.bk ρ S) P = P.bk ρ S := rfl
theorem WS_ct : WS (.ct ρ S) P = P.ct ρ S := rfl
theorem WS_lift {r : Rs α} {k : α → Sto → Out} : WS (liftS ρ r k) P = WE r (fun a S => WS (k a S) P) (fun x S => P.ex x ρ S) := by cases r <;> rfl
theorem WS_seq {o : Out} {t : SD} : WS (seqO o t) P = WS o ⟨fun ρ S => WS (t ρ S) P, P.rt, P.bk, P.ct, P.ex⟩ := by cases o <;> rfl
theorem WS_ite {c : Prop} [Decidable c] {r s : Out} : WS (if c then r else s) P = if c then WS r P else WS s P := by split <;> rfl
theorem WS_mono {o : Out} {P' : Wn} (h : WS o P') (h1 : ∀ ρ S, P'.nx ρ S → P.nx ρ S) (h2 : ∀ ρ S, P'.rt ρ S → P.rt ρ S) (h3 : ∀ ρ S, P'.bk ρ S → P.bk ρ S) (h4 : ∀ ρ S, P'.ct ρ S → P.ct ρ S) (h5 : ∀ x ρ S, P'.ex x ρ S → P.ex x ρ S) : WS o P := by
  cases o with
  | st => exact h
  | nx ρ S => exact h1 _ _ h
  | rt d S => exact h2 _ _ h
  | bk ρ S => exact h3 _ _ h
  | ct ρ S => exact h4 _ _ h
  | ex x ρ S => exact h5 _ _ _ h
theorem WE_gB {N : List Str} {F : SD} {ds : List D} {Q : D → Sto → Prop} (h : WS (F (start0 N ds) S) ⟨fun _ S' => WE (pick S S' .non) Q E, fun d S' => WE (pick S S' d) Q E, fun _ _ => False, fun _ _ => False, fun x _ S' => WE (pickX S S' x) Q E⟩) : WE (gB N F ds S) Q E := by
  unfold gB
  cases e : F (start0 N ds) S with
  | st => rw [e] at h; exact h
  | nx ρ S => rw [e] at h; exact h
  | rt d S => rw [e] at h; exact h
  | bk ρ S => rw [e] at h; exact h.elim
  | ct ρ S => rw [e] at h; exact h.elim
  | ex x ρ S => rw [e] at h; exact h
theorem clS_nil {k : Nat} : ClS k [] := fun _ h => by cases h
theorem clS_set {k n : Nat} {S : Sto} {o : O} (h : ClS k S) (ho : ClO k o) : ClS k (S.set n o) := fun x hx => by
  rcases List.mem_or_eq_of_mem_set hx with h' | rfl
  · exact h x h'
  · exact ho
theorem clS_app {k : Nat} {S T : Sto} (h : ClS k S) (h2 : ClS k T) : ClS k (S ++ T) := fun x hx => by
  rcases List.mem_append.mp hx with h' | h'
  · exact h x h'
  · exact h2 x h'
theorem clS_one {k : Nat} {o : O} (h : ClO k o) : ClS k [o] := fun x hx => by
  rw [List.mem_singleton.mp hx]
  exact h
theorem clO_p {k : Nat} {l : List PyData} : ClO k (.lst (l.map .p)) := fun d hd => by
  obtain ⟨p, _, rfl⟩ := List.mem_map.mp hd
  trivial
theorem clD_mono {k k' : Nat} {d : D} (hk : k ≤ k') (q : ClD k d) : ClD k' d := by
  cases d with
  | ob n => exact Nat.lt_of_lt_of_le q hk
  | _ => trivial
theorem clS_mono {k k' : Nat} {S : Sto} (hk : k ≤ k') (h : ClS k S) : ClS k' S := by
  intro o ho
  have q := h o ho
  cases o with
  | lst l => exact fun d hd => clD_mono hk (q d hd)
  | fz l => trivial
  | dic l => exact fun d hd => clD_mono hk (q d hd)
  | dik l => exact fun d hd => clD_mono hk (q d hd)
  | ins c l => exact fun d hd => clD_mono hk (q d hd)
  | lck => trivial
  | lkd l => trivial
theorem WS_for {g : GD} {body : SD} {chk : Sto → Prop} (I : Nat → Env → Sto → Prop) : ∀ (ds : List D) (k : Nat) (ρ : Env) (S : Sto), I k ρ S →
    (∀ i d ρ S, ds[i]? = some d → I (k + i) ρ S → WE (g d ρ S) (fun ρ1 S1 => WS (body ρ1 S1) ⟨fun ρ S => chk S ∧ I (k + i + 1) ρ S, P.rt, P.nx, fun ρ S => chk S ∧ I (k + i + 1) ρ S, P.ex⟩) (fun _ _ => False)) →
    (∀ ρ S, I (k + ds.length) ρ S → P.nx ρ S) → WS (forL g body chk ds ρ S) P
  | [], k, ρ, S, h0, _, hn => hn ρ S h0
  | d :: ds, k, ρ, S, h0, hs, hn => by
    have q := hs 0 d ρ S rfl h0
    unfold forL
    cases e : g d ρ S with
    | st => rw [e] at q; exact q.elim
    | ex x S1 => rw [e] at q; exact q.elim
    | ok ρ1 S1 =>
      rw [e] at q
      have q : WS (body ρ1 S1) _ := q
      have ih := fun ρ2 S2 h => WS_for (body := body) (chk := chk) (g := g) I ds (k + 1) ρ2 S2 h (fun i d ρ S e h => by
        have := hs (i + 1) d ρ S e (by rw [show k + (i + 1) = k + 1 + i by omega]; exact h)
        rw [show k + (i + 1) = k + 1 + i by omega] at this
        exact this) (fun ρ S h => hn ρ S (by rw [List.length_cons, show k + (ds.length + 1) = k + 1 + ds.length by omega]; exact h))
      dsimp only
      cases e2 : body ρ1 S1 with
      | st => rw [e2] at q; exact q.elim
      | nx ρ2 S2 =>
        rw [e2] at q
        have q : chk S2 ∧ I (k + 0 + 1) ρ2 S2 := q
        simp only [q.1, if_true]
        exact ih ρ2 S2 q.2
      | ct ρ2 S2 =>
        rw [e2] at q
        have q : chk S2 ∧ I (k + 0 + 1) ρ2 S2 := q
        simp only [q.1, if_true]
        exact ih ρ2 S2 q.2
      | bk ρ2 S2 => rw [e2] at q; exact q
      | rt d2 S2 => rw [e2] at q; exact q
      | ex x ρ2 S2 => rw [e2] at q; exact q
theorem WE_lc {g : GD} {c : BD} {f : ED} {chk : Sto → Prop} {ρ0 : Env} {Q : D → Sto → Prop} (I : Nat → List PyData → Sto → Prop) : ∀ (ds : List D) (k : Nat) (acc : List PyData) (S : Sto), I k acc S →
    (∀ i d acc S, ds[i]? = some d → I (k + i) acc S → WE (g d ρ0 S) (fun ρ1 S1 => WE (c ρ1 S1) (fun b S2 => if b = true then WE (f ρ1 S2) (fun y S3 => ∃ p S4, restD y S3 = some (p, S4) ∧ acc.length < sizeLine ∧ chk S4 ∧ I (k + i + 1) (acc ++ [p]) S4) (fun _ _ => False) else chk S2 ∧ I (k + i + 1) acc S2) (fun _ _ => False)) (fun _ _ => False)) →
    (∀ acc S, I (k + ds.length) acc S → Q (.lst acc) S) → WE (okL (lcL g c f chk ρ0 ds acc S)) Q E
  | [], k, acc, S, h0, _, hn => hn acc S h0
  | d :: ds, k, acc, S, h0, hs, hn => by
    have q := hs 0 d acc S rfl h0
    have ih := fun acc2 S2 h => WE_lc (g := g) (c := c) (f := f) (chk := chk) (ρ0 := ρ0) I ds (k + 1) acc2 S2 h (fun i d ρ S e h => by
        have := hs (i + 1) d ρ S e (by rw [show k + (i + 1) = k + 1 + i by omega]; exact h)
        rw [show k + (i + 1) = k + 1 + i by omega] at this
        exact this) (fun ρ S h => hn ρ S (by rw [List.length_cons, show k + (ds.length + 1) = k + 1 + ds.length by omega]; exact h))
    unfold lcL
    cases e : g d ρ0 S with
    | st => rw [e] at q; exact q.elim
    | ex x S1 => rw [e] at q; exact q.elim
    | ok ρ1 S1 =>
      rw [e] at q
      have q : WE (c ρ1 S1) _ _ := q
      dsimp only
      cases e2 : c ρ1 S1 with
      | st => rw [e2] at q; exact q.elim
      | ex x S1 => rw [e2] at q; exact q.elim
      | ok b S2 =>
        rw [e2] at q
        cases b with
        | false =>
          have q : chk S2 ∧ I (k + 0 + 1) acc S2 := q
          simp only [q.1, if_true]
          exact ih acc S2 q.2
        | true =>
          have q : WE (f ρ1 S2) _ _ := q
          dsimp only
          cases e3 : f ρ1 S2 with
          | st => rw [e3] at q; exact q.elim
          | ex x S1 => rw [e3] at q; exact q.elim
          | ok y S3 =>
            rw [e3] at q
            obtain ⟨p, S4, q1, q2, q3, q4⟩ := q
            simp only [q1, q2, q3, and_self, if_true]
            exact ih _ _ q4
theorem WE_true {r : Rs D} (h : WE r (fun d _ => d = .bl true) (fun _ _ => False)) : ∃ S', r = .ok (.bl true) S' := by
  obtain ⟨d, S', e, rfl⟩ := WE_get h
  exact ⟨S', e⟩
end
end DL
namespace DL
open PySem PySem.Spec PyProof.Rows L2
theorem bYes_ap {ρ : Env} {S : Sto} : bYes ρ S = .ok true S := rfl
end DL
namespace DL
open PySem PySem.Spec PyProof.Rows L2
theorem WS_cut {s t : SD} {ρ : Env} {S : Sto} {P : Wn} (M : Env → Sto → Prop) (h1 : WS (s ρ S) ⟨M, P.rt, P.bk, P.ct, P.ex⟩) (h2 : ∀ ρ S, M ρ S → WS (t ρ S) P) : WS (sSeq s t ρ S) P := by
  rw [sSeq_ap, WS_seq]
  exact WS_mono h1 h2 (fun _ _ h => h) (fun _ _ h => h) (fun _ _ h => h) (fun _ _ _ h => h)
end DL
namespace DL
open PySem PySem.Spec PyProof.Rows L2
theorem gIsN_ap {neg : Bool} {a : PyData} {S : Sto} : gIsN neg (.p a) (.p .none) S = .ok (.bl (neg ^^ isNoneD a)) S := rfl
theorem isNoneD_int {i : Int} : isNoneD (.int i) = false := rfl
theorem isNoneD_none : isNoneD .none = true := rfl
end DL
namespace DL
open PySem PySem.Spec PyProof.Rows L2
end DL
namespace DL
open PySem PySem.Spec PyProof.Rows L2
def andR (x : D) (r : Rs D) (S : Sto) : Rs D := match x with
  | .p (.bool b) => if b = true then r else .ok (.bl false) S
  | _ => .st
def orR (x : D) (r : Rs D) (S : Sto) : Rs D := match x with
  | .p (.bool b) => if b = true then .ok (.bl true) S else r
  | _ => .st
def notR (x : D) (S : Sto) : Rs D := match x with
  | .p (.bool b) => .ok (.bl (!b)) S
  | _ => .st
theorem eAnd_wp {f g : ED} {ρ : Env} {S : Sto} : eAnd f g ρ S = (f ρ S).bind fun x S1 => andR x (g ρ S1) S1 := by
  unfold eAnd
  congr 1
  funext x S1
  cases x with
  | p d => cases d with
    | bool b => cases b <;> rfl
    | _ => rfl
  | ob _ => rfl
  | scr _ => rfl
  | xc _ _ _ => rfl
theorem eOr_wp {f g : ED} {ρ : Env} {S : Sto} : eOr f g ρ S = (f ρ S).bind fun x S1 => orR x (g ρ S1) S1 := by
  unfold eOr
  congr 1
  funext x S1
  cases x with
  | p d => cases d with
    | bool b => cases b <;> rfl
    | _ => rfl
  | ob _ => rfl
  | scr _ => rfl
  | xc _ _ _ => rfl
theorem eNot_wp {f : ED} {ρ : Env} {S : Sto} : eNot f ρ S = (f ρ S).bind fun x S1 => notR x S1 := by
  unfold eNot
  congr 1
theorem andR_bl {b : Bool} {r : Rs D} {S : Sto} : andR (.p (.bool b)) r S = if b = true then r else .ok (.bl false) S := rfl
theorem orR_bl {b : Bool} {r : Rs D} {S : Sto} : orR (.p (.bool b)) r S = if b = true then .ok (.bl true) S else r := rfl
theorem notR_bl {b : Bool} {S : Sto} : notR (.p (.bool b)) S = .ok (.bl (!b)) S := rfl
theorem gAny_lst {bs : List Bool} {S : Sto} : gAny [.p (.list (bs.map .bool))] S = .ok (.bl (bs.any id)) S := by
  unfold gAny gBools
  have e : lItems S (.p (.list (bs.map .bool))) = some (bs.map fun b => D.p (.bool b)) := by
    show some ((bs.map PyData.bool).map D.p) = _
    rw [List.map_map]; rfl
  simp only [e, bsD_map]
theorem gAll_lst {bs : List Bool} {S : Sto} : gAll [.p (.list (bs.map .bool))] S = .ok (.bl (bs.all id)) S := by
  unfold gAll gBools
  have e : lItems S (.p (.list (bs.map .bool))) = some (bs.map fun b => D.p (.bool b)) := by
    show some ((bs.map PyData.bool).map D.p) = _
    rw [List.map_map]; rfl
  simp only [e, bsD_map]
theorem gSum_lst {bs : List Int} {S : Sto} : gSum [.p (.list (bs.map .int))] S = .ok (.int bs.sum) S := by
  unfold gSum
  have e : lItems S (.p (.list (bs.map .int))) = some (bs.map fun b => D.p (.int b)) := by
    show some ((bs.map PyData.int).map D.p) = _
    rw [List.map_map]; rfl
  simp only [e, isD_map]
theorem chkOf_p {d : PyData} {l : List D} {S : Sto} : chkOf (.p d) l S = True := rfl
theorem lItems_lst {l : List PyData} {S : Sto} : lItems S (.p (.list l)) = some (l.map .p) := rfl
end DL
namespace DL
open PySem PySem.Spec PyProof.Rows L2
section
variable {X : Cx} {W : WX}
def rInTp (neg : Bool) (K : PySem.W.Frag) : R2 := fun v w H Q => ∃ d l, Dp K H v d ∧ Dp K H w (.tuple l) ∧ (SeqAt.shaped d = true ∧ SeqAt.shaped (.tuple l) = true) ∧ Q (.bl (neg ^^ l.any fun z => PyData.eqv z d)) H
theorem op_inTp (room : X.A.units + 65 < cLine) : OpR X (compareOp .In) (rInTp false X.K) := by
  intro pins s σ H v w pv pw Q I rv rw' ⟨d, l, dv, dl, ⟨sd, sl⟩, q⟩
  obtain ⟨_, r1⟩ := Dp.reads I d v pv dv rv
  obtain ⟨_, r2⟩ := Dp.reads I _ w pw dl rw'
  refine SeqAt.in_tuple_reads r2 r1 (SeqAt.canLay_of_shaped sl) (SeqAt.canLay_of_shaped sd) (room_in_shaped sd room) ⟨.bl _, H, I, rfl, ?_⟩
  simpa using q
def gInT (neg : Bool) : D → D → Sto → Rs D := fun x y S => match y with
  | .p (.tuple l) => (match pNow S x with
    | some d => if SeqAt.shaped d = true ∧ SeqAt.shaped (.tuple l) = true then .ok (.bl (neg ^^ l.any fun z => PyData.eqv z d)) S else .st
    | none => .st)
  | y => gIn neg x y S
theorem od_inT (hu : X.A.units + 65 < cLine) : OpD X W (compareOp .In) (gInT false) := by
  obtain ⟨r, hr, h0⟩ := od_in (X := X) (W := W) hu
  refine ⟨_, OpR.or hr (op_inTp hu), fun κ x y vx vy m S H σ Q rl rx ry h => ?_⟩
  unfold gInT at h
  split at h
  · split at h
    · split at h
      · rename_i e hs
        exact .inr ⟨_, _, rx.now rl e, RP.dp _ _ ry, hs, h.ok' .refl rl RD.bl_⟩
      · exact h.elim
    · exact h.elim
  · exact .inl (h0 κ x y vx vy m S H σ Q rl rx ry h)
end
end DL
namespace DL
open PySem PySem.Spec PyProof.Rows L2
section
variable {X : Cx} {W : WX}
end
end DL
namespace DL
open PySem PySem.Spec PyProof.Rows L2
def keyP : PyData → Option Key
  | .int i => some (.inl i)
  | .str x => some (.inr x)
  | _ => none
def keyL : List PyData → Option (List Key)
  | [] => some []
  | d :: l => match keyP d, keyL l with
    | some k, some ks => some (k :: ks)
    | _, _ => none
def keyD : D → Option (List Key)
  | .p (.tuple (d :: l)) => keyL (d :: l)
  | _ => none
def valD (kvs : List (List Key × D)) (k : List Key) : Option D := (kvs.find? fun kv => decide (kv.1 = k)).map (·.2)
section
variable {X : Cx} {W : WX} {m m1 : List Addr} {S S1 : Sto} {H H1 : Hp} {σ : St} {κ : Addr → Prop}
theorem keyL_ok {L : Addr → Prop} : ∀ {l : List PyData} {vs : List V} {k : List Key}, RPs (KX X κ) H L l vs → keyL l = some k → vs = k.map kV
  | [], vs, k, r, e => by
    rw [RPs] at r
    subst r
    cases e
    rfl
  | d :: l, vs, k, r, e => by
    rw [RPs] at r
    obtain ⟨v, r', rfl, h1, h2⟩ := r
    unfold keyL at e
    split at e
    · rename_i a b ea eb
      cases e
      rw [List.map_cons, ← keyL_ok h2 eb]
      congr 1
      unfold keyP at ea
      split at ea
      · cases ea
        rw [RP] at h1
        exact h1
      · cases ea
        rw [RP] at h1
        exact h1
      · cases ea
    · cases e
theorem bT_key {d : PyData} {l : List PyData} (h : bT (d :: l) = true) : keyL (d :: l) = none := by
  cases d with
  | tuple _ => rfl
  | _ => cases h
theorem RD.key {y : D} {v : V} {k : List Key} (h : RD (KX X κ) m S H y v) (e : keyD y = some k) : ∃ b, v = .ref b ∧ H b = some (.tup (k.map kV)) := by
  unfold keyD at e
  split at e
  · obtain ⟨b, vs, rfl, h1, h2⟩ := h.tup'
    rcases h1 with h1 | ⟨hb, _⟩
    · rw [keyL_ok h2 e] at h1
      exact ⟨b, rfl, h1⟩
    · rename_i d l
      rw [bT_key hb] at e
      cases e
  · cases e
theorem val_pair {kvs : List (List Key × D)} {ws : List (List Key × V)} (r : RKV (KX X κ) m S H kvs ws) (k : List Key) :
    (valD kvs k = none ∧ valV ws k = none) ∨ ∃ d v, valD kvs k = some d ∧ valV ws k = some v ∧ RD (KX X κ) m S H d v := by
  induction r with
  | nil => exact .inl ⟨rfl, rfl⟩
  | @cons p q l l' h _ ih =>
    by_cases e : p.1 = k
    · have e2 : q.1 = k := h.1.symm.trans e
      exact .inr ⟨p.2, q.2, by simp [valD, List.find?_cons, e], valV_pos e2, h.2⟩
    · have e2 : ¬ q.1 = k := fun z => e (h.1.trans z)
      rw [valV_neg e2]
      have : valD (p :: l) k = valD l k := by simp [valD, List.find?_cons, e]
      rw [this]
      exact ih
def dicO (S : Sto) : D → Option (List (List Key × D))
  | .ob n => match S[n]? with
    | some (.dic kvs) => some kvs
    | _ => none
  | _ => none
theorem RD.dic {d : D} {v : V} {kvs : List (List Key × D)} (r : Rl (KX X κ) m S H) (h : RD (KX X κ) m S H d v) (e : dicO S d = some kvs) : ∃ n a ws, d = .ob n ∧ m[n]? = some a ∧ S[n]? = some (.dic kvs) ∧ v = .ref a ∧ H a = some (.dT ws) ∧ RKV (KX X κ) m S H kvs ws := by
  unfold dicO at e
  split at e
  · rename_i n
    split at e
    · rename_i q
      cases e
      obtain ⟨a, em, rfl⟩ := h
      obtain ⟨ws, h1, h2⟩ := r.obj n a _ em q
      exact ⟨n, a, ws, rfl, em, q, rfl, h1, h2⟩
    · cases e
  · cases e
theorem op_inDc (hu : X.A.units + 1 < cLine) : OpR X (compareOp .In) (fun x y H Q => ∃ a o, y = .ref a ∧ DGet H a x o ∧ Q (.bl o.isSome) H) := by
  intro pins s σ H x y v u Q I rx ry ⟨a, o, e, g, q⟩
  subst e
  obtain rfl : u = Value.ref a := ry
  exact d_in hu I g rx fun s1 I1 => ⟨.bl _, H, I1, rfl, q⟩
def gInA (neg : Bool) : D → D → Sto → Rs D := fun x y S => match dicO S y with
  | some kvs => (match keyD x with
    | some k => .ok (.bl (neg ^^ (valD kvs k).isSome)) S
    | none => .st)
  | none => gInT neg x y S
theorem get_dic {x y : D} {vx vy : V} {kvs : List (List Key × D)} {k : List Key} (rl : Rl (KX X κ) m S H) (rx : RD (KX X κ) m S H x vx) (ry : RD (KX X κ) m S H y vy) (e1 : dicO S y = some kvs) (e2 : keyD x = some k) :
    ∃ a o, vy = .ref a ∧ DGet H a vx o ∧ o.isSome = (valD kvs k).isSome := by
  obtain ⟨n, p, ws, rfl, _, _, rfl, h3, h4⟩ := ry.dic rl e1
  obtain ⟨b, rfl, hb⟩ := rx.key e2
  refine ⟨p, _, rfl, DGet.t (k := k) h3 hb, ?_⟩
  rcases val_pair h4 k with ⟨z1, z2⟩ | ⟨d', v, z1, z2, z3⟩
  · rw [z1, z2]; rfl
  · rw [z1, z2]; rfl
theorem od_inA (hu : X.A.units + 65 < cLine) : OpD X W (compareOp .In) (gInA false) := by
  obtain ⟨r, hr, h0⟩ := od_inT (X := X) (W := W) hu
  refine ⟨_, OpR.or hr (op_inDc (by omega)), fun κ x y vx vy m S H σ Q rl rx ry h => ?_⟩
  unfold gInA at h
  split at h
  · rename_i kvs e1
    split at h
    · rename_i k e2
      obtain ⟨a, o, rfl, g, e3⟩ := get_dic rl rx ry e1 e2
      refine .inr ⟨a, o, rfl, g, ?_⟩
      rw [e3]
      exact h.ok' .refl rl (by rw [Bool.false_xor]; exact RD.bl_)
    · exact h.elim
  · exact .inl (h0 κ x y vx vy m S H σ Q rl rx ry h)
end
end DL
namespace DL
open PySem PySem.Spec PyProof.Rows L2
section
variable {X : Cx} {W : WX}
end
end DL
namespace DL
open PySem PySem.Spec PyProof.Rows L2
section
variable {X : Cx} {W : WX} {m m1 m2 : List Addr} {S S1 S2 : Sto} {H H1 H2 : Hp} {κ : Addr → Prop} {L : Addr} {o : O}
section
variable {elt tg iter : Expr} {ifs : List Expr} {scope : Scope} {own : List (Str × Nat)} {fi : Env → Sto → Rs IDt} {g : GD} {c : BD} {f : ED}
end
end
end DL
namespace DL
open PySem PySem.Spec PyProof.Rows L2
def Fz (d : PyData) (l : List PyData) : Prop := d = .list l ∨ d = .tuple l
def FzAt (K : PySem.W.Frag) (d : PyData) (H : Hp) (q : Addr) (us : List V) : Prop := match d with
  | .list _ => H q = some (.lst us)
  | _ => SqT K H q us
def RIf : Kh → List Addr → Sto → Hp → PyData × List PyData → It → Prop := fun K m S H d J => Fz d.1 d.2 ∧ ∃ q, RP K H (lv K m S) d.1 (.ref q) ∧
  ∀ (H' : Hp) (us : List V), FzAt K.K d.1 H' q us → ∀ i, (∀ y, us[i]? = some y → J.go i H' ∧ ∀ x H'', J.yld i H' x H'' → H'' = H' ∧ x = y) ∧ (us.length ≤ i → J.stop i H')
structure DIf (X : Cx) (W : WX) (tg iter : Expr) (f : Env → Sto → Rs (PyData × List PyData)) : Prop where
  ex : ∃ wi : TI, PI X tg iter wi ∧ Imp X W RIf wi f
open Classical in
section
variable {X : Cx} {W : WX} {m m1 m2 : List Addr} {S S1 S2 : Sto} {H H1 H2 : Hp} {κ : Addr → Prop} {L : Addr} {o : HO}
theorem DIf.can {tg iter : Expr} {f : Env → Sto → Rs (PyData × List PyData)} (h : DIf X W tg iter f) : PI X tg iter (can X W RIf f) := by
  obtain ⟨t, p, i⟩ := h
  exact ⟨fun pins s σ H Q I ⟨κ, ρ, S, m, rl, re, h⟩ => p.run pins s σ H Q I (i κ ρ S σ H m Q rl re h)⟩
theorem FzAt.of {K : Kh} {d : PyData} {l : List PyData} {q : Addr} {P : Addr → Prop} (f : Fz d l) (h : RP K H P d (.ref q)) : ∃ us, FzAt K.K d H q us ∧ RPs K H P l us := by
  rcases f with rfl | rfl
  · rw [RP] at h
    obtain ⟨a, us, e, q1, _, q3⟩ := h
    cases e
    exact ⟨us, q1, q3⟩
  · rw [RP] at h
    obtain ⟨a, us, e, q1, q3⟩ := h
    cases e
    exact ⟨us, tu_sq q1, q3⟩
theorem RD.hidw {ws : List V} (rl : Rl (KX X κ) m S H) (hL : κ L) (eL : H L = some (.lst ws)) {d : D} {v : V} (h : RD (KX X κ) m S H d v) : RD (KX X κ) m S (upd H L o) d v := by
  have ht : ∀ a us, H a = some (.tup us) → (upd H L o) a = some (.tup us) := fun a us h => sqT_upd h (.inr ⟨_, eL, trivial⟩)
  cases d with
  | p d => exact RP.mono (K := KX X κ) ht (hid_upd_lst rl hL) d v h
  | ob n => exact h
  | scr ns =>
    obtain ⟨a, e, h⟩ := h
    refine ⟨a, e, h.imp (fun ⟨o', e'⟩ => ⟨o', ?_⟩) id⟩
    rw [upd_ne (fun z => by rw [z, eL] at e'; cases e')]
    exact e'
  | xc a dd fs =>
    refine ⟨h.1, fun d e => ?_⟩
    have e' := h.2 d e
    rw [upd_ne (fun z => by rw [z, eL] at e'; cases e')]
    exact e'
theorem RE.hidw {ws : List V} (rl : Rl (KX X κ) m S H) (hL : κ L) (eL : H L = some (.lst ws)) {ρ : Env} {σ : St} (h : RE (KX X κ) m S H ρ σ) : RE (KX X κ) m S (upd H L o) ρ σ :=
  pairMono (fun _ _ h d e => let ⟨v, e1, r⟩ := h d e; ⟨v, e1, RD.hidw rl hL eL r⟩) h
section
variable {elt tg iter tg1 iter1 : Expr} {ifs ifs1 : List Expr} {scope : Scope} {own : List (Str × Nat)} {vs1 : List Nat} {fi : Env → Sto → Rs IDt} {g g1 : GD} {c c1 : BD} {i1 : Env → Sto → Rs (PyData × List PyData)} {f : ED} {pos : Pos}
end
end
end DL
namespace DL
open PySem PySem.Spec PyProof.Rows L2 PpSet
section
variable {X : Cx}
end
open Classical in
section
variable {X : Cx} {W : WX}
end
end DL
namespace DL
open PySem PySem.Spec PyProof.Rows L2
theorem mSet0 {α : Type} {x a : α} {xs : List α} : (x :: xs).set 0 a = a :: xs := List.set_cons_zero
theorem mSet1 {α : Type} {x a : α} {xs : List α} {n : Nat} : (x :: xs).set (n + 1) a = x :: xs.set n a := List.set_cons_succ
theorem mGet0 {α : Type} {a : α} {l : List α} : (a :: l)[0]? = some a := List.getElem?_cons_zero
theorem mGet1 {α : Type} {a : α} {l : List α} {n : Nat} : (a :: l)[n + 1]? = l[n]? := List.getElem?_cons_succ
theorem mJoin {α : Type} {o : Option α} : (some o).join = o := Option.join_some
theorem mMap {α β : Type} {f : α → β} {a : α} : (some a).map f = some (f a) := Option.map_some a f
theorem mBind {α β : Type} {f : α → Option β} {a : α} : (some a).bind f = f a := Option.bind_some a f
theorem mLen1 {α : Type} {a : α} {l : List α} : (a :: l).length = l.length + 1 := List.length_cons
theorem mLen0 {α : Type} : ([] : List α).length = 0 := List.length_nil
theorem mSome {α : Type} {a : α} : (some a).isSome = true := Option.isSome_some
theorem mNil {α : Type} {l : List α} : l ++ [] = l := List.append_nil l
theorem mIt1 {α : Type} {a b : α} {h : Decidable True} : (if True then a else b) = a := if_true a b
theorem mIt0 {α : Type} {a b : α} {h : Decidable False} : (if False then a else b) = b := if_false a b
theorem mIp1 {a b : Prop} {h : Decidable True} : (if True then a else b) = a := if_true a b
theorem mIp0 {a b : Prop} {h : Decidable False} : (if False then a else b) = b := if_false a b
def wqm := And.intro @mSet0 (And.intro @mSet1 (And.intro @mGet0 (And.intro @mGet1 (And.intro @mJoin (And.intro @mMap (And.intro @mBind (And.intro @mLen1 (And.intro @mLen0 (And.intro @mSome (And.intro @mNil (And.intro @mIt1 (And.intro @mIt0 (And.intro @mIp1 @mIp0)))))))))))))
def wq0 := And.intro @WE_ok (And.intro @WE_bind (And.intro @WE_ite (And.intro @WE_no (And.intro @WS_nx (And.intro @WS_rt (And.intro @WS_bk (@WS_ct)))))))
def wq1 := And.intro @WS_lift (And.intro @WS_seq (And.intro @WS_ite (And.intro @oRs_some (And.intro @eVar_ap (And.intro @eC_ap (And.intro @eBin_ap (@isB_bl)))))))
def wq2 := And.intro @asB_ap (And.intro @bAnd_ap (And.intro @bOr_ap (And.intro @bNot_ap (And.intro @bTru_ap (And.intro @eAnd_wp (And.intro @eOr_wp (@eNot_wp)))))))
def wq3 := And.intro @andR_bl (And.intro @orR_bl (And.intro @notR_bl (And.intro @decide_eq_true_eq (And.intro @gAny_lst (And.intro @gAll_lst (And.intro @gSum_lst (@chkOf_p)))))))
def wq4 := And.intro @lItems_lst (And.intro @eNeg_ap (And.intro @eIf_ap (And.intro @aNil_ap (And.intro @aCons_ap (And.intro @eTup_ap (And.intro @eLst_ap (@eLstO_ap)))))))
def wq5 := And.intro @eB_ap (And.intro @eCall_ap (And.intro @eMth_ap (And.intro @eIsi_ap (And.intro @eSl_ap (And.intro @oNone_ap (And.intro @oSome_ap (@eLc_ap)))))))
def wq6 := And.intro @sSeq_ap (And.intro @sNil_ap (And.intro @sBrk_ap (And.intro @sCnt_ap (And.intro @sExpr_ap (And.intro @rtO_some (And.intro @sRetR_ap (@sRetN_ap)))))))
def wq7 := And.intro @sIf_ap (And.intro @sSet_ap (And.intro @nxG_ok (And.intro @sAsg_ap (And.intro @sAug_ap (And.intro @gNm_ap (And.intro @iRgA_ap (@iRgB_ap)))))))
def wq8 := And.intro @iTpl_ap (And.intro @iLst_ap (And.intro @restD_p' (And.intro @restAll_nil (And.intro @restAll_cons (And.intro @gAdd_int (And.intro @gAdd_str (@gAdd_tup)))))))
def wq9 := And.intro @gAdd_lst (And.intro @gAddI_int (And.intro @gSub_int (And.intro @gMul_int (And.intro @gMod_int (And.intro @gFdv_int (And.intro @gPow_int (@gLt_int)))))))
def wq10 := And.intro @gLe_int (And.intro @gGt_int (And.intro @gGe_int (And.intro @gEq_int (And.intro @gEq_str (And.intro @gEq_bl (And.intro @atI_nat' (@atI_0)))))))
def wq11 := And.intro @atI_1 (And.intro @atI_2 (And.intro @atI_3 (And.intro @atI_4 (And.intro @atI_5 (And.intro @gIx_tup (And.intro @gIx_lst (@gIx_scr)))))))
def wq12 := And.intro @gIx_ob (And.intro @obL_lst (And.intro @obL_fz (And.intro @gLen_tup (And.intro @gLen_lst (And.intro @gLen_scr (And.intro @gLen_ob (@gToInt_int)))))))
def wq13 := And.intro @gToInt_bl (And.intro @gToStr_int (And.intro @truD_bl (And.intro @gMin2_int (And.intro @gMax2_int (And.intro @isLst_ob (And.intro @isLst_lst (@obO_lst)))))))
def wq14 := And.intro @oLst_ob (And.intro @appO_some (And.intro @gApp_ap (And.intro @gSetL_ap (And.intro @okE_some (And.intro @setL_ob (And.intro @ixN_0 (@ixN_1)))))))
def wq15 := And.intro @sizeLine_val (And.intro @rngL_length (And.intro @Bool.false_eq_true (And.intro @Bool.false_xor (And.intro @Bool.true_xor (And.intro @and_self (And.intro @Bool.not_true (@Bool.not_false)))))))
def wq16 := And.intro @bYes_ap (And.intro @gIsN_ap (And.intro @isNoneD_int (And.intro @isNoneD_none (@Bool.not_not))))
def wpW := And.intro wqm (And.intro wq0 (And.intro wq1 (And.intro wq2 (And.intro wq3 (And.intro wq4 (And.intro wq5 (And.intro wq6 (And.intro wq7 (And.intro wq8 (And.intro wq9 (And.intro wq10 (And.intro wq11 (And.intro wq12 (And.intro wq13 (And.intro wq14 (And.intro wq15 (wq16)))))))))))))))))
end DL
namespace DL
open PySem PySem.Spec PyProof.Rows L2
section
variable {X : Cx} {W : WX} {m : List Addr} {S : Sto} {H : Hp} {σ : St} {κ : Addr → Prop}
end
end DL
namespace DL
open PySem PySem.Spec PyProof.Rows L2
section
variable {X : Cx} {W : WX} {m m1 : List Addr} {S S1 : Sto} {H H1 : Hp} {σ : St} {ρ : Env} {κ : Addr → Prop}
end
end DL
namespace DL
open PySem PySem.Spec PyProof.Rows L2
section
variable {X : Cx} {W : WX} {m m1 : List Addr} {S S1 : Sto} {H H1 : Hp} {σ : St} {ρ : Env} {κ : Addr → Prop}
open Classical in
end
section
variable {P : Program} {w : World} {K : PySem.W.Frag} {mg mb : Str → Option Value} {fa a : Addr} {s₁ : Shared} {vs : List Value} {ns : List Int}
end
end DL
namespace DL
open PySem PySem.Spec PyProof.Rows L2
section
variable {X : Cx} {W : WX} {pos : Pos}
noncomputable def whileL (c : BD) (body : SD) : Nat → Env → Sto → Out
  | 0, _, _ => .st
  | n + 1, ρ, S => liftS ρ (c ρ S) fun b S1 => if b = true then (match body ρ S1 with
    | .nx ρ2 S2 => whileL c body n ρ2 S2
    | .ct ρ2 S2 => whileL c body n ρ2 S2
    | .bk ρ2 S2 => .nx ρ2 S2
    | o => o) else .nx ρ S1
noncomputable def sWhile (n : Nat) (c : BD) (body : SD) : SD := fun ρ S => whileL c body n ρ S
theorem ds_while {c : Expr} {body : List Stmt} {ba : BD} {fb : SD} {n : Nat} (hp : PassesOwn (model X.prog X.w) X.A X.env X.xe) (hc : DT X W c ba) (hb : DSs X W body fb) : DS X W (.While c body [] pos) (sWhile n ba fb) := by
  obtain ⟨tc, pc, ic⟩ := hc
  obtain ⟨tb, pb, ib⟩ := hb
  refine ⟨_, ps_while hp pc pb, fun κ ρ S σ H m Dn rl re h => ?_⟩
  refine ⟨fun k σ' H' => ∃ ρ' S' m', Nx (KX X κ) m S H m' S' H' ∧ Rl (KX X κ) m' S' H' ∧ RE (KX X κ) m' S' H' ρ' σ' ∧ PostS X κ W m' S' H' (whileL ba fb k ρ' S') Dn, ⟨n, ρ, S, m, .refl, rl, re, h⟩, ?_⟩
  rintro k σ2 H2 ⟨ρ2, S2, m2, x2, rl2, re2, h2⟩
  cases k with
  | zero => exact h2.elim
  | succ k =>
    unfold whileL at h2
    refine ic.seqS rl2 re2 h2 fun d S3 v H3 m3 x3 rl3 re3 r3 h3 => ?_
    have r3 : d = v := r3
    subst r3
    cases d with
    | false =>
      rw [if_neg Bool.false_ne_true]
      rw [if_neg Bool.false_ne_true] at h3
      exact h3 σ2 H3 m3 .refl rl3 re3
    | true =>
      rw [if_pos rfl]
      rw [if_pos rfl] at h3
      refine ⟨fun σ' H' => ∃ ρ' S' m', Nx (KX X κ) m S H m' S' H' ∧ Rl (KX X κ) m' S' H' ∧ RE (KX X κ) m' S' H' ρ' σ' ∧ PostS X κ W m' S' H' (whileL ba fb k ρ' S') Dn, fun σ' H' z => ⟨k, Nat.lt_succ_self k, z⟩, ?_⟩
      refine ib κ ρ2 S3 σ2 H3 m3 _ rl3 re3 ?_
      have x23 := x2.trans x3
      cases e2 : fb ρ2 S3 with
      | st => simp only [e2] at h3; exact h3.elim
      | nx ρ5 S5 =>
        simp only [e2] at h3
        intro σ5 H5 m5 x5 rl5 re5
        exact ⟨ρ5, S5, m5, x23.trans x5, rl5, re5, PostS.nx x5 h3⟩
      | ct ρ5 S5 =>
        simp only [e2] at h3
        intro σ5 H5 m5 x5 rl5 re5
        exact ⟨ρ5, S5, m5, x23.trans x5, rl5, re5, PostS.nx x5 h3⟩
      | bk ρ5 S5 => simp only [e2] at h3; exact h3
      | rt d5 S5 => simp only [e2] at h3; exact h3
      | ex x5 ρ5 S5 => simp only [e2] at h3; exact h3
end
section
variable {P : Wn}
theorem WS_while {c : BD} {body : SD} (I : Nat → Env → Sto → Prop) (hs : ∀ k ρ S, I k ρ S → WE (c ρ S) (fun b S1 => if b = true then WS (body ρ S1) ⟨fun ρ S => ∃ k', k' < k ∧ I k' ρ S, P.rt, P.nx, fun ρ S => ∃ k', k' < k ∧ I k' ρ S, P.ex⟩ else P.nx ρ S1) (fun _ _ => False)) :
    ∀ (n k : Nat) (ρ : Env) (S : Sto), k < n → I k ρ S → WS (whileL c body n ρ S) P
  | 0, k, ρ, S, h, _ => absurd h (Nat.not_lt_zero k)
  | n + 1, k, ρ, S, h, hi => by
    have q := hs k ρ S hi
    unfold whileL
    cases e : c ρ S with
    | st => rw [e] at q; exact q.elim
    | ex x S1 => rw [e] at q; exact q.elim
    | ok b S1 =>
      rw [e] at q
      cases b with
      | false => exact q
      | true =>
        have q : WS (body ρ S1) _ := q
        show WS (match body ρ S1 with
          | .nx ρ2 S2 => whileL c body n ρ2 S2
          | .ct ρ2 S2 => whileL c body n ρ2 S2
          | .bk ρ2 S2 => .nx ρ2 S2
          | o => o) P
        cases e2 : body ρ S1 with
        | st => rw [e2] at q; exact q.elim
        | nx ρ2 S2 =>
          rw [e2] at q
          obtain ⟨k', hk, hi'⟩ := q
          exact WS_while I hs n k' ρ2 S2 (by omega) hi'
        | ct ρ2 S2 =>
          rw [e2] at q
          obtain ⟨k', hk, hi'⟩ := q
          exact WS_while I hs n k' ρ2 S2 (by omega) hi'
        | bk ρ2 S2 => rw [e2] at q; exact q
        | rt d2 S2 => rw [e2] at q; exact q
        | ex x ρ2 S2 => rw [e2] at q; exact q
theorem sWhile_ap {n : Nat} {c : BD} {body : SD} {ρ : Env} {S : Sto} : sWhile n c body ρ S = whileL c body n ρ S := rfl
end
section
variable {P : Program} {w : World} {K : PySem.W.Frag} {mg : Str → Option Value} {base : Heap}
end
end DL
namespace DL
open PySem PySem.Spec PyProof.Rows L2
theorem op_mul_t {X : Cx} : OpR X (binaryOp .Mult) (fun x y H Q => ∃ (a : Str) (n : Int), x = .str a ∧ y = .int n ∧ a.length ≤ 16 ∧ -1048576 ≤ n ∧ n ≤ 1048576 ∧ Q (.str (Txt.mul a n)) H) := by
  intro pins s σ H x y v u Q I rx ry h
  obtain ⟨a, n, rfl, rfl, h1, h2, h3, q⟩ := h
  obtain ⟨t, rfl⟩ := rx
  obtain ⟨t', rfl⟩ := ry
  exact SB.mul (mulOk_of 16 1048576 h1 h3 (by omega) (by decide) (by decide)) fun t' k => ⟨.str (Txt.mul a n), H, I.tok _, ⟨_, rfl⟩, q⟩
def gMulT : D → D → Sto → Rs D := fun x y S => match x, y with
  | .p (.str a), .p (.int n) => if a.length ≤ 16 ∧ -1048576 ≤ n ∧ n ≤ 1048576 then .ok (.str (Txt.mul a n)) S else .st
  | _, _ => .st
theorem od_mulT {X : Cx} {W : WX} : OpD X W (binaryOp .Mult) gMulT := by
  refine ⟨_, op_mul_t, fun κ x y vx vy m S H σ Q rl rx ry h => ?_⟩
  unfold gMulT at h
  split at h
  · rename_i a n
    split at h
    · rename_i e
      exact ⟨a, n, rx.str, ry.int, e.1, e.2.1, e.2.2, h.ok' .refl rl RD.str_⟩
    · exact h.elim
  · exact h.elim
theorem foldl_rep (c : Nat) : ∀ (k : Nat) (acc : Array Nat), (List.replicate k #[c]).foldl (· ++ ·) acc = acc ++ (List.replicate k c).toArray
  | 0, acc => by simp
  | k + 1, acc => by
    rw [List.replicate_succ, List.foldl_cons, foldl_rep c k, List.replicate_succ, Array.append_assoc]
    congr 1
    apply Array.ext'
    simp
theorem mul_one (c n : Nat) : Txt.mul (SX.S [c]) (n : Int) = SX.S (List.replicate n c) := by
  unfold Txt.mul
  by_cases h1 : (n : Int) < 1
  · rw [if_pos h1]
    have : n = 0 := by omega
    subst this
    rfl
  rw [if_neg h1]
  have hl : (SX.S [c]).length = 1 := rfl
  by_cases h2 : n = 1
  · subst h2
    rfl
  rw [if_neg (by rw [hl]; simp; omega)]
  show (⟨(List.replicate (n : Int).toNat #[c]).foldl (· ++ ·) #[]⟩ : Str) = ⟨(List.replicate n c).toArray⟩
  rw [foldl_rep, Int.toNat_natCast]
  simp
theorem gMulT_one {c n : Nat} {S : Sto} (h : n ≤ 1048576) : gMulT (.p (.str (SX.S [c]))) (.p (.int (n : Int))) S = .ok (.str (SX.S (List.replicate n c))) S := by
  have e : gMulT (.p (.str (SX.S [c]))) (.p (.int (n : Int))) S = if (SX.S [c]).length ≤ 16 ∧ -1048576 ≤ (n : Int) ∧ (n : Int) ≤ 1048576 then .ok (.str (Txt.mul (SX.S [c]) (n : Int))) S else .st := rfl
  rw [e, if_pos ⟨by show 1 ≤ 16; decide, by omega, by omega⟩, mul_one]
end DL
namespace DL
open PySem PySem.Spec PyProof.Rows L2
section
variable {X : Cx} {W : WX} {m : List Addr} {S : Sto} {H : Hp}
def insO (c : Str) (S : Sto) : D → Option (List (Str × D))
  | .ob n => match S[n]? with
    | some (.ins c' fs) => if c' = c then some fs else none
    | _ => none
  | _ => none
theorem RD.ins {d : D} {v : V} {c : Str} {fs : List (Str × D)} (r : Rl (KX X κ) m S H) (h : RD (KX X κ) m S H d v) (e : insO c S d = some fs) : ∃ n a C dx ws, d = .ob n ∧ m[n]? = some a ∧ S[n]? = some (.ins c fs) ∧ v = .ref a ∧ X.mg c = some (.ref C) ∧ H a = some (.ins C dx ws) ∧ H dx = some (.own a) ∧ RFS (KX X κ) m S H fs ws := by
  unfold insO at e
  split at e
  · rename_i n
    split at e
    · rename_i c' fs' q
      split at e
      · rename_i hcc
        cases e
        subst hcc
        obtain ⟨a, em, rfl⟩ := h
        obtain ⟨C, dx, ws, hc, h1, ho, h2⟩ := r.obj n a _ em q
        exact ⟨n, a, C, dx, ws, rfl, em, q, rfl, hc, h1, ho, h2⟩
      · cases e
    · cases e
  · cases e
end
section
variable {X : Cx} {W : WX} {o e : Expr} {es : List Expr} {pos apos : Pos} {fo : ED} {ga : AD}
theorem de_globS {x : Str} {z : Str} {p : Pos} (hg : Gl X x) (hm : ∃ t, X.mg x = some (.str z t)) (hd : (x == ("__debug__" : Str)) = false := by decide) : DE X W (.Name x p) (eC (.str z)) := by
  obtain ⟨t, hm⟩ := hm
  refine ⟨tC (.str z), pe_glob hg hm ⟨t, rfl⟩ hd, fun κ ρ S σ H m Q rl re h => h.ok' .refl rl RD.str_⟩
end
section
variable {P : Program} {w : World} {K : PySem.W.Frag} {mg : Str → Option Value} {base : Heap}
end
end DL
namespace DL
open PySem PySem.Spec PyProof.Rows L2
section
variable {X : Cx} {W : WX} {m m1 : List Addr} {S S1 : Sto} {H H1 : Hp} {σ : St} {κ : Addr → Prop}
def dikO (S : Sto) : D → Option (List (Key × D))
  | .ob n => match S[n]? with
    | some (.dik kvs) => some kvs
    | _ => none
  | _ => none
theorem RD.dik {d : D} {v : V} {kvs : List (Key × D)} (r : Rl (KX X κ) m S H) (h : RD (KX X κ) m S H d v) (e : dikO S d = some kvs) : ∃ n a ws, d = .ob n ∧ m[n]? = some a ∧ S[n]? = some (.dik kvs) ∧ v = .ref a ∧ H a = some (.dK ws) ∧ RKK (KX X κ) m S H kvs ws := by
  unfold dikO at e
  split at e
  · rename_i n
    split at e
    · rename_i q
      cases e
      obtain ⟨a, em, rfl⟩ := h
      obtain ⟨ws, h1, h2⟩ := r.obj n a _ em q
      exact ⟨n, a, ws, rfl, em, q, rfl, h1, h2⟩
    · cases e
  · cases e
end
end DL
namespace DL
open PySem PySem.Spec PyProof.Rows L2
open Classical in
section
variable {X : Cx} {W : WX} {m m1 m2 : List Addr} {S S1 S2 : Sto} {H H1 H2 : Hp} {κ : Addr → Prop} {L : Addr} {o : O}
section
variable {elt tg iter : Expr} {ifs : List Expr} {scope : Scope} {own : List (Str × Nat)} {fi : Env → Sto → Rs IDt} {g : GD} {c : BD} {f : ED}
end
end
end DL
namespace DL
open PySem PySem.Spec PyProof.Rows L2
def DVals (H : Hp) (a : Addr) (ys : List V) : Prop := (∃ kvs, H a = some (.dT kvs) ∧ ys = kvs.map (·.2)) ∨ ∃ kvs, H a = some (.dK kvs) ∧ ys = kvs.map (·.2)
section
variable {X : Cx}
end
def dvD (S : Sto) : D → Option (List D)
  | .ob n => match S[n]? with
    | some (.dic kvs) => some (kvs.map (·.2))
    | some (.dik kvs) => some (kvs.map (·.2))
    | _ => none
  | _ => none
section
variable {X : Cx} {W : WX} {m : List Addr} {S : Sto} {H : Hp} {κ : Addr → Prop}
theorem RD.dv {d : D} {v : V} {ds : List D} (r : Rl (KX X κ) m S H) (h : RD (KX X κ) m S H d v) (e : dvD S d = some ds) : ∃ a ys, v = .ref a ∧ DVals H a ys ∧ ((∃ kvs, H a = some (.dK kvs)) ∨ ∃ kvs, H a = some (.dT kvs)) ∧ RDs (KX X κ) m S H ds ys := by
  unfold dvD at e
  split at e
  · rename_i n
    split at e
    · rename_i kvs q
      cases e
      obtain ⟨a, em, rfl⟩ := h
      obtain ⟨ws, h1, h2⟩ := r.obj n a _ em q
      refine ⟨a, ws.map (·.2), rfl, .inl ⟨ws, h1, rfl⟩, .inr ⟨ws, h1⟩, ?_⟩
      clear q em h1
      induction h2 with
      | nil => exact .nil
      | cons h _ ih => exact .cons h.2 ih
    · rename_i kvs q
      cases e
      obtain ⟨a, em, rfl⟩ := h
      obtain ⟨ws, h1, h2⟩ := r.obj n a _ em q
      refine ⟨a, ws.map (·.2), rfl, .inr ⟨ws, h1, rfl⟩, .inl ⟨ws, h1⟩, ?_⟩
      clear q em h1
      induction h2 with
      | nil => exact .nil
      | cons h _ ih => exact .cons h.2 ih
    · cases e
  · cases e
end
end DL
namespace DL
open PySem PySem.Spec PyProof.Rows L2
section
variable {X : Cx} {W : WX}
end
end DL
namespace DL
open PySem PySem.Spec PyProof.Rows L2
section
variable {P : Program} {w : World} {K : PySem.W.Frag} {mg : Str → Option Value} {base : Heap}
end
section
variable {X : Cx} {W : WX} {o e : Expr} {es : List Expr} {pos apos : Pos} {fo : ED} {ga : AD}
end
end DL
namespace DL
open PySem PySem.Spec PyProof.Rows L2
section
variable {X : Cx} {W : WX} {m : List Addr} {S : Sto} {H : Hp} {κ : Addr → Prop}
end
end DL
namespace DL
open PySem PySem.Spec PyProof.Rows L2
section
variable {X : Cx} {W : WX}
end
end DL
namespace DL
open PySem PySem.Spec PyProof.Rows L2
section
variable {X : Cx} {W : WX}
end
end DL
namespace SrtL
open PySem PySem.Spec PyProof.Rows SrtO
def lexL : List Int → List Int → Bool
  | a :: l, b :: m => if a = b then lexL l m else decide (a < b)
  | [], _ :: _ => true
  | _, [] => false
theorem tr : ∀ {l m n : List Int}, lexL m l = false → lexL n m = false → lexL n l = false
  | a :: l, b :: m, c :: n, h1, h2 => by
    unfold lexL at h1 h2 ⊢
    by_cases e1 : b = a
    · by_cases e2 : c = b
      · rw [if_pos e1] at h1
        rw [if_pos e2] at h2
        rw [if_pos (e2.trans e1)]
        exact tr h1 h2
      · rw [if_neg e2] at h2
        rw [if_neg (fun z => e2 (z.trans e1.symm)), ← e1]
        exact h2
    · rw [if_neg e1] at h1
      by_cases e2 : c = b
      · rw [if_neg (fun z => e1 (e2.symm.trans z)), e2]
        exact h1
      · rw [if_neg e2] at h2
        simp only [decide_eq_false_iff_not] at h1 h2
        rw [if_neg (by omega), decide_eq_false_iff_not]
        omega
  | [], m, n, h1, h2 => by cases n <;> (first | rfl | (cases m <;> simp_all [lexL]))
  | a :: l, [], n, h1, h2 => by simp [lexL] at h1
  | a :: l, b :: m, [], h1, h2 => by simp [lexL] at h2
section
variable {prog : Program} {w : World} {A : Around} {E : Value → Shared → Prop} {s : Shared}
abbrev IsI (v : Value) (i : Int) : Prop := ∃ t, v = .int i t
def IsT (h : Heap) (v : Value) (is : List Int) : Prop := ∃ a o us n, v = .ref a ∧ h.get? a = some o ∧ o.cls = .type "tuple" ∧ o.data = .seq (List.toArray us) n ∧ Paired IsI us is
theorem IsT.keeps {h h' : Heap} {v : Value} {is : List Int} (p : IsT h v is) (k : ∀ b o, h.get? b = some o → o.cls = .type "tuple" → h'.get? b = some o) : IsT h' v is := by
  obtain ⟨a, o, us, n, e, ho, hc, hd, q⟩ := p
  exact ⟨a, o, us, n, e, k _ _ ho hc, hc, hd, q⟩
end
end SrtL
namespace DL
open PySem PySem.Spec PyProof.Rows L2
section
variable {X : Cx} {W : WX}
end
section
variable {X : Cx} {W : WX}
end
end DL
namespace DL
open PySem PySem.Spec PyProof.Rows L2
section
variable {X : Cx} {W : WX}
end
end DL
namespace DL
open PySem PySem.Spec PyProof.Rows L2
section
variable {X : Cx} {W : WX}
end
end DL
namespace DL
open PySem PySem.Spec PyProof.Rows L2
section
variable {X : Cx} {pins : List (Addr × Obj)} {σ : St} {H : Hp} {s : Shared} {d : Addr} {o : Obj}
end
section
variable {P : Program} {w : World} {K : PySem.W.Frag} {tg : Expr} {d : Addr} {o : Obj} {es : Array DictEntry} {ep : Nat}
end
section
variable {X : Cx} {e : Expr} {td : TE} {apos cpos : Pos}
end
section
variable {X : Cx} {W : WX} {m m1 : List Addr} {S S1 : Sto} {H H1 : Hp} {σ : St} {ρ : Env} {κ : Addr → Prop}
end
end DL
namespace DL
open PySem PySem.Spec PyProof.Rows L2
section
variable {X : Cx} {W : WX}
end
end DL
namespace DL
open PySem PySem.Spec PyProof.Rows L2
section
variable {X : Cx} {W : WX} {m : List Addr} {S : Sto} {H : Hp} {κ : Addr → Prop}
end
end DL
namespace DL
open PySem PySem.Spec PyProof.Rows L2
section
variable {X : Cx} {W : WX} {o e : Expr} {fo fe : ED} {apos pos : Pos}
end
end DL
namespace LI
open PySem PySem.Calls PyProof.Rows PyProof.V PySem.Spec PySem.W
section
variable {prog : Program} {w : World} {A : Around} {E : Value → Shared → Prop} {s : Shared} {es : Array DictEntry} {ep : Nat} {r d : Addr}
end
end LI
namespace DL
open PySem PySem.Spec PyProof.Rows L2
section
variable {X : Cx}
end
end DL
namespace DL
open PySem PySem.Spec PyProof.Rows L2
section
variable {K : Kh} {m : List Addr} {S : Sto} {H H' : Hp}
theorem Nx.more (r : Rl K m S H) (g : ∀ b o, H b = some o → H' b = some o) : Nx K m S H m S H' :=
  ⟨fun _ _ h => g _ _ h, fun _ _ h n => ⟨g _ _ h, n⟩, ⟨[], by simp⟩, fun _ _ _ h => g _ _ h, fun _ _ h => g _ _ h, fun a h => by
    obtain ⟨_, u, hu, _⟩ := r.hid a h
    rw [g _ _ hu, hu], fun _ _ h => g _ _ h⟩
theorem Rl.more (r : Rl K m S H) (g : ∀ b o, H b = some o → H' b = some o) : Rl K m S H' :=
  ⟨r.len, r.nd, fun a h => ⟨(r.hid a h).1, let ⟨u, e, mu⟩ := (r.hid a h).2; ⟨u, g _ _ e, mu⟩⟩, fun n a x em es => by
    have q := r.obj n a x em es
    obtain ⟨u, hu⟩ := q.some
    exact q.nx (Nx.more r g) (by rw [g _ _ hu, hu])⟩
end
section
variable {X : Cx} {W : WX}
end
section
variable {X : Cx} {W : WX}
end
end DL
namespace DL
open PySem PySem.Spec PyProof.Rows L2 PySem.Builtin
section
variable {X : Cx}
end
section
variable {X : Cx} {W : WX}
end
end DL
namespace DL
open PySem PySem.Spec PyProof.Rows L2
section
variable {X : Cx} {tg e : Expr} {td : TE}
end
section
variable {X : Cx} {W : WX} {m m1 : List Addr} {S S1 : Sto} {H H1 : Hp} {σ : St} {ρ : Env} {κ : Addr → Prop}
end
end DL
namespace DL
open PySem PySem.Spec PyProof.Rows L2
section
variable {X : Cx} {W : WX}
end
end DL
namespace DL
open PySem PySem.Spec PyProof.Rows L2
section
variable {X : Cx} {W : WX}
end
end DL
namespace DL
open PySem PySem.Spec PyProof.Rows L2
open PySem.Sem (wp)
section
variable {P : Program} {w : World} {A : Around} {E : Value → Shared → Prop} {s : Shared} {zp ti tw j1 j2 tA lB : Addr} {k k' : Nat} {us ws : Array Value} {u u' p0 q0 : Value}
end
section
variable {P : Program} {w : World} {A : Around} {E : Value → Shared → Prop} {s : Shared} {tA lB : Addr} {us ws : Array Value}
end
end DL
namespace DL
open PySem PySem.Spec PyProof.Rows L2
section
variable {X : Cx} {W : WX}
end
end DL
namespace HTr
open PySem PyProof.Rows HT
section
variable {prog : Program} {w : World} {A : Around} {E : Value → Shared → Prop} {s : Shared}
end
end HTr
namespace L2
open PySem PySem.Spec PyProof.Rows
section
variable {X : Cx} {e st : Expr} {te ts : TE} {pos p2 : Pos}
end
end L2
namespace DL
open PySem PySem.Spec PyProof.Rows L2
section
variable {X : Cx} {W : WX} {a st : Expr} {fa fs : ED} {pos p2 : Pos}
end
end DL
namespace DL
open PySem PySem.Spec PyProof.Rows L2
section
variable {X : Cx}
end
open Classical in
section
variable {X : Cx} {W : WX} {m m1 m2 : List Addr} {S S1 S2 : Sto} {H H1 H2 : Hp} {σ : St} {ρ : Env} {κ : Addr → Prop} {L : Addr}
end
section
variable {X : Cx} {W : WX} {kx vx tg e : Expr} {ifs : List Expr} {scope : Scope} {own : List (Str × Nat)} {pos : Pos} {f fk fv : ED} {g : GD} {c : BD}
end
end DL
namespace DL
open PySem PySem.Spec PyProof.Rows L2
section
variable {X : Cx} {W : WX} {o e a : Expr} {es : List Expr} {fo fe fa fb : ED} {ga : AD} {apos pos c0 : Pos} {j : Nat}
structure DET (X : Cx) (W : WX) (e : Expr) (f : ED) : Prop where
  ex : ∃ t : TE, PET X e t ∧ Imp X W RD t f
structure DAT (X : Cx) (W : WX) (es : List Expr) (f : AD) : Prop where
  ex : ∃ t : TA, PAT X es t ∧ Imp X W RDs t f
theorem dat_of (h : DA X W es ga) : DAT X W es ga := by
  obtain ⟨t, p, i⟩ := h
  exact ⟨t, fun pos pins s σ H Q _ I q => p.run pos pins s σ H Q I q, i⟩
theorem dat_cons (ha : DET X W a fa) (hb : DAT X W es ga) (hs : starEach (a :: es) X.env = (false, eval a X.env) :: starEach es X.env := by rfl) : DAT X W (a :: es) (aCons fa ga) := by
  obtain ⟨ta, pa, ia⟩ := ha
  obtain ⟨tb, pb, ib⟩ := hb
  refine ⟨_, pat_cons pa pb hs, fun κ ρ S σ H m Q rl re h => ?_⟩
  refine ia.seq rl re h fun d S1 v H1 m1 x1 rl1 re1 r1 h1 => ?_
  refine ib.seq rl1 re1 h1 fun d2 S2 v2 H2 m2 x2 rl2 re2 r2 h2 => ?_
  exact h2.ok' .refl rl2 (.cons (r1.nx x2) r2)
theorem pa_consT {x : Str} {tb : TA} (hb : PAT X es tb) (hs : starEach (.Constant (.str x) j c0 :: es) X.env = (false, eval (.Constant (.str x) j c0) X.env) :: starEach es X.env := by rfl) : PA X (.Constant (.str x) j c0 :: es) (tCons (tC (.str x)) tb) := by
  refine ⟨fun pos pins s σ H Q I h => ?_⟩
  rw [hs]
  show wpAny _ _ (spliced ((false, eval (.Constant (.str x) j c0) X.env) :: backTo pos (starEach es X.env))) _ _ s
  refine Calls.spliced_cons (Calls.Constant_str ?_)
  exact thn (hb pos pins _ σ H _ (by show 1 ≤ s.toks + 1; omega) (I.tok (s.toks + 1)) h) fun us s2 ⟨xs, H2, I2, r2, q2⟩ => ⟨.str x :: xs, H2, I2, .cons ⟨s.toks, rfl⟩ r2, q2⟩
theorem da_consT {x : Str} (hb : DAT X W es ga) (hs : starEach (.Constant (.str x) j c0 :: es) X.env = (false, eval (.Constant (.str x) j c0) X.env) :: starEach es X.env := by rfl) : DA X W (.Constant (.str x) j c0 :: es) (aCons (eC (.str x)) ga) := by
  obtain ⟨tb, pb, ib⟩ := hb
  obtain ⟨ta, pa, ia⟩ := (de_str (X := X) (W := W) (x := x) (j := j) (pos := c0)).ex
  refine ⟨_, pa_consT pb hs, fun κ ρ S σ H m Q rl re h => ?_⟩
  refine Imp.seq (ta := tC (.str x)) (fa := eC (.str x)) (Ra := RD) (X := X) (W := W) (fun κ ρ S σ H m Q rl re h => h.ok' .refl rl (by show RP _ _ _ _ _; rw [RP])) rl re h fun d S1 v H1 m1 x1 rl1 re1 r1 h1 => ?_
  refine ib.seq rl1 re1 h1 fun d2 S2 v2 H2 m2 x2 rl2 re2 r2 h2 => ?_
  exact h2.ok' .refl rl2 (.cons (r1.nx x2) r2)
theorem pe_opT {x : Str} {op : Operator} {r : R2} {tb : TE} (ho : OpR X (binaryOp op) r) (hb : PET X e tb) : PE X (.BinOp (.Constant (.str x) j c0) op e pos) (tOp r (tC (.str x)) tb) := by
  refine ⟨fun pins s σ H Q I h => ?_⟩
  refine wpAny_BinOp (Calls.Constant_str ?_)
  exact thn (hb pins _ σ H _ (by show 1 ≤ s.toks + 1; omega) (I.tok (s.toks + 1)) h) fun u s2 ⟨y, H2, I2, r2, q2⟩ => ho pins s2 σ H2 (.str x) y _ u Q I2 ⟨s.toks, rfl⟩ r2 q2
theorem de_binT {x : Str} {op : Operator} {g : D → D → Sto → Rs D} (ho : OpD X W (binaryOp op) g) (hb : DET X W e fb) : DE X W (.BinOp (.Constant (.str x) j c0) op e pos) (eBin g (eC (.str x)) fb) := by
  obtain ⟨r, o, hr⟩ := ho
  obtain ⟨tb, pb, ib⟩ := hb
  exact ⟨_, pe_opT o pb, imp_bin hr (fun κ ρ S σ H m Q rl re h => h.ok' .refl rl (by show RP _ _ _ _ _; rw [RP])) ib⟩
def eRepl (fo : ED) (y z : Str) : ED := fun ρ S => (fo ρ S).bind fun x S1 => match x with
  | .p (.str a) => if a.length + (a.length + 1) * z.length ≤ 16777216 then .ok (.str (Txt.replace a y z)) S1 else .st
  | _ => .st
theorem det_repl {y z : Str} {j k : Nat} {c0 c1 : Pos} (ho : DE X W o fo) (hyz : (y == z) = false := by decide)
    (hst : starEach [.Constant (.str y) j c0, .Constant (.str z) k c1] X.env = [(false, eval (.Constant (.str y) j c0) X.env), (false, eval (.Constant (.str z) k c1) X.env)] := by rfl)
    (hbase : attributeBase o "replace" X.env (eval o X.env) = eval o X.env := by rfl) (hline : (apos.endLine == pos.line) = true := by rfl) :
    DET X W (.Call (.Attribute o "replace" apos) [.Constant (.str y) j c0, .Constant (.str z) k c1] [] pos) (eRepl fo y z) := by
  obtain ⟨t1, p1, i1⟩ := ho
  refine ⟨_, CwR.pet_replC p1 hyz hst hbase hline, fun κ ρ S σ H m Q rl re h => ?_⟩
  refine i1.seq rl re h fun d S1 v H1 m1 x1 rl1 re1 r1 h1 => ?_
  split at h1
  · rename_i a
    split at h1
    · rename_i hl
      exact ⟨a, r1.str, hl, h1.ok' .refl rl1 (by show RP _ _ _ _ _; rw [RP])⟩
    · exact h1.elim
  · exact h1.elim
def iTxt (f : ED) : Env → Sto → Rs IDt := fun ρ S => (f ρ S).bind fun d S1 => match d with
  | .p (.str x) => .ok (x.cps.toList.map fun c => D.p (.str ⟨#[c]⟩), fun _ => True) S1
  | _ => .st
theorem di_txt {tg : Expr} (he : DE X W e fe) : DI X W tg e (iTxt fe) := by
  obtain ⟨t, p, i⟩ := he
  refine ⟨_, pi_str p, fun κ ρ S σ H m Q rl re h => ?_⟩
  refine i.seq rl re h fun d S1 v H1 m1 x1 rl1 re1 r1 h1 => ?_
  split at h1
  · rename_i x
    refine ⟨x, r1.str, h1.ok' .refl rl1 ⟨trivial, fun h' m' S' H' i d' hs x' rl' ck e => ?_, fun h' m' S' H' i hs x' rl' ck hi => ?_⟩⟩
    · rw [List.getElem?_map] at e
      cases ec : x.cps.toList[i]? with
      | none => rw [ec] at e; cases e
      | some c =>
        rw [ec] at e
        cases e
        have hc : x.cps[i]? = some c := by rw [← Array.getElem?_toList]; exact ec
        refine ⟨(Array.getElem?_eq_some_iff.mp hc).1, fun z H'' hy => ?_⟩
        obtain ⟨rfl, c', hc', rfl⟩ := hy
        rw [hc] at hc'
        cases hc'
        exact ⟨.refl, rl', by show RP _ _ _ _ _; rw [RP]⟩
    · rw [List.length_map] at hi
      show x.cps.size ≤ i
      rw [← Array.length_toList]
      exact hi
  · exact h1.elim
def gToIntT : FD := fun ds S => match ds with
  | [.p (.str a)] => (match PySem.intText? a with
    | some n => if a.length ≤ 640 then .ok (.int n) S else .st
    | none => .st)
  | _ => .st
theorem cd_intT : CD X W (.type "int") gToIntT := by
  refine ⟨_, call_int_str, fun κ ds vs m S H σ Q rl rd h => ?_⟩
  unfold gToIntT at h
  split at h
  · rename_i a
    obtain ⟨v, rfl, r⟩ := RDs1 rd
    split at h
    · rename_i n en
      split at h
      · rename_i hl
        exact ⟨a, n, by rw [r.str], en, hl, h.ok' .refl rl RD.int_⟩
      · exact h.elim
    · exact h.elim
  · exact h.elim
def eSIdx (fo fe : ED) : ED := fun ρ S => (fo ρ S).bind fun x S1 => match x with
  | .p (.str a) => (fe ρ S1).bind fun y S2 => (match y with
    | .p (.str b) => (match Builtin.Str.occurrences a b 0 a.length 1 with
      | i :: _ => .ok (.int (i : Nat)) S2
      | [] => .st)
    | _ => .st)
  | _ => .st
theorem de_sIdx (ho : DE X W o fo) (he : DE X W e fe) (hs : starEach [e] X.env = [(false, eval e X.env)] := by rfl) (hb : attributeBase o "index" X.env (eval o X.env) = eval o X.env := by rfl) (hl : (apos.endLine == pos.line) = true := by rfl) :
    DE X W (.Call (.Attribute o "index" apos) [e] [] pos) (eSIdx fo fe) := by
  obtain ⟨t1, p1, i1⟩ := ho
  obtain ⟨t2, p2, i2⟩ := he
  refine ⟨_, pe_m1 PySem.F.slot_str_index PySem.F.type_str_index mt_sindex p1 p2 hs hb hl, fun κ ρ S σ H m Q rl re h => ?_⟩
  refine i1.seq rl re h fun d S1 v H1 m1 x1 rl1 re1 r1 h1 => ?_
  split at h1
  · rename_i a
    refine ⟨⟨a, r1.str⟩, ?_⟩
    refine i2.seq rl1 re1 h1 fun d2 S2 v2 H2 m2 x2 rl2 re2 r2 h2 => ?_
    split at h2
    · rename_i b
      split at h2
      · rename_i i rest eo
        exact ⟨a, b, i, rest, r1.str, by rw [r2.str], eo, h2.ok' .refl rl2 RD.int_⟩
      · exact h2.elim
    · exact h2.elim
  · exact h1.elim
end
end DL
namespace My
open PySem PySem.Spec PyProof.Rows L2 DL
theorem units65 {k : Nat} {A : Around} (r : Room k A) : A.units + 65 < cLine := by have := r.un; omega
def topS (i : Nat) : Stmt := PySem.Challenge.pw_surelyread_k02_signs.main.body.getD i (.Pass ⟨0, 0, 0, 0⟩)
def subS (st : Stmt) (k : Nat) : Stmt := match st with
  | .ClassDef (body := b) .. => b.getD k (.Pass ⟨0, 0, 0, 0⟩)
  | _ => .Pass ⟨0, 0, 0, 0⟩
theorem slen (a b : Str) : (a ++ b).length = a.length + b.length := by
  show (a.cps ++ b.cps).size = _
  rw [Array.size_append]
  rfl
abbrev m_Fault : Stmt := subS (topS 2) 0
theorem scm_Fault : FnScope ["self", "line", "column", "reason"] ["self", "line", "column", "reason"] (defScope m_Fault) := ⟨rfl, rfl, rfl, by decide +kernel, rfl, by decide +kernel, by decide +kernel⟩
def fl_Fault : List PyData → List (Str × PyData) := fun ps => match ps with
  | [x0, x1, x2] => [("reason", x2), ("column", x1), ("line", x0)]
  | _ => []
def ok_Fault : List PyData → Bool := fun ps => match ps with
  | [.int x0, .int x1, .str x2] => decide (x0.natAbs.log2 < 1920) && (decide (x1.natAbs.log2 < 1920) && (decide (x2.length ≤ 1000000)))
  | _ => false
theorem i_Fault {P : Program} {w : World} {K : PySem.W.Frag} {mg : Str → Option Value} {base : Heap} {C P0 fI : Addr} {fd : FuncData} (F : FunD K "__init__" "Fault.__init__" (defArgs m_Fault) (defBody m_Fault) (defScope m_Fault) [] [] fI fd) (T : OexC K C) (gP : mg "PageError" = some (.ref P0)) (hr0 : PySem.W.readsIn K P0 (.type "type") = true) (vV : PySem.W.findCls K (.ref P0) (.type "type") "__init__" = some (.val (.builtin "ValueError.__init__"))) (hs : PySem.W.specialIn K (.ref P0) "__getattribute__" = some (some (.builtin "type.__getattribute__"))) (n_line : PySem.W.findIn K (.ref C) "line" = some none) (n_column : PySem.W.findIn K (.ref C) "column" = some none) (n_reason : PySem.W.findIn K (.ref C) "reason" = some none) :
    FnOk P w K mg base CX0 1 fI fd ["self", "line", "column", "reason"] (spInit C 3 fl_Fault ok_Fault) := by
  refine F.ok (CX := CX0) scm_Fault (fun vs H Q E h => h.1) fun cdv A outer s H vs Q E hr h => ?_
  refine ⟨_, PSs.nox (pss_cons (ps_expr (pe_clsinit rfl gP hr0 vV hs (pa_cons (pv 0) (pa_cons (pe_joined (.cons pe_str (.cons (pe_fmt (pv 1)) (.cons pe_str (.cons (pe_fmt (pv 2)) (.cons pe_str (.cons (pe_fmt (pv 3)) (.nil)))))))) pa_nil))) rfl) (pss_cons (ps_ost (pv 0) (pv 1)) (pss_cons (ps_ost (pv 0) (pv 2)) (pss_one (ps_ost (pv 0) (pv 3)))))), ?_⟩
  obtain ⟨hl, a, ps, rfl, hok, ha, hQ⟩ := h
  unfold ok_Fault at hok
  split at hok
  · rename_i x0 x1 x2
    simp only [Bool.and_eq_true, decide_eq_true_eq] at hok
    obtain ⟨ox0, ox1, ox2⟩ := hok
    have tx0 := int_text_len_1921 ox0
    have tx1 := int_text_len_1921 ox1
    have c0 : Str.empty.length = 0 := rfl
    have c1 : (Str.ofString "line ").length = 5 := by decide +kernel
    have c3 : (Str.ofString ", column ").length = 9 := by decide +kernel
    have c5 : (Str.ofString ": ").length = 2 := by decide +kernel
    refine ⟨_, rfl, ?_⟩
    refine ⟨_, rfl, by rw [slen, sizeLine_eq]; omega, ?_⟩
    refine ⟨_, rfl, .inr ⟨x0, rfl, ox0, _, rfl, by rw [slen, slen, sizeLine_eq]; omega, ?_⟩⟩
    refine ⟨_, rfl, by rw [slen, slen, slen, sizeLine_eq]; omega, ?_⟩
    refine ⟨_, rfl, .inr ⟨x1, rfl, ox1, _, rfl, by rw [slen, slen, slen, slen, sizeLine_eq]; omega, ?_⟩⟩
    refine ⟨_, rfl, by rw [slen, slen, slen, slen, slen, sizeLine_eq]; omega, ?_⟩
    refine ⟨_, rfl, .inl ⟨x2, rfl, by rw [sizeLine_eq]; omega, _, rfl, by rw [slen, slen, slen, slen, slen, slen, sizeLine_eq]; omega, ?_⟩⟩
    refine ⟨a, C, _, rfl, by simp, T, ha, ?_⟩
    refine ⟨_, rfl, _, rfl, a, C, rfl, T, n_line, .inl ⟨ha, fun d hd hne => ?_⟩⟩
    refine ⟨_, rfl, _, rfl, a, C, rfl, T, n_column, .inr ⟨d, _, upd_same, by rw [upd_ne hne]; exact upd_same, by simp, ?_⟩⟩
    refine ⟨_, rfl, _, rfl, a, C, rfl, T, n_reason, .inr ⟨d, _, by rw [upd_ne (Ne.symm hne)]; exact upd_same, upd_same, by simp, ?_⟩⟩
    have q := hQ d hd hne
    have eH : ∀ (u0 u1 u2 v : HO), upd (upd (upd (upd H d u0) a v) d u1) d u2 = upd (upd H d u2) a v := fun u0 u1 u2 v => by
      funext b
      by_cases b1 : b = d
      · rw [b1, upd_same, upd_ne hne, upd_same]
      · rw [upd_ne b1, upd_ne b1]
        by_cases b2 : b = a
        · rw [b2, upd_same, upd_same]
        · rw [upd_ne b2, upd_ne b1, upd_ne b2, upd_ne b1]
    show Q .non _
    rw [eH]
    exact q
  · cases hok
abbrev m_TooLarge : Stmt := subS (topS 3) 0
abbrev m_BadNumbers : Stmt := subS (topS 4) 0
abbrev s_split : Stmt := topS 17
abbrev NN_split : List Str := ["text", "positions", "signs", "at", "line", "column", "kind", "value", "end"]
theorem sc_split : FnScope NN_split ["text"] (defScope s_split) := ⟨rfl, rfl, rfl, by decide +kernel, rfl, by decide +kernel, by decide +kernel⟩
noncomputable def B_split (g_find_positions : FD) (g_sign_at : FD) : SD := sSeq (sSet 1 (eCall 1 g_find_positions (aCons (eVar 0) (aNil)))) (sSeq (sSet 2 (eLstO (aNil))) (sSeq (sSet 3 (eC (.int 0))) (sSeq (sWhile 100000 (asB (eBin gLt (eVar 3) (eB gLen (aCons (eVar 0) (aNil))))) (sIf (asB (eBin (gInA false) (eBin gIx (eVar 0) (eVar 3)) (eC (.str " \n")))) (sAug 3 (eC (.int 1)) gAddI) (sSeq (sAsg (eCallX 3 g_sign_at (aCons (eVar 0) (aCons (eVar 3) (aCons (eVar 1) (aNil))))) (gTupD 3 (gsCons (gNm 6) (gsCons (gNm 7) (gsCons (gNm 8) (gsNil)))))) (sSeq (sAsg (eBin gIx (eVar 1) (eVar 3)) (gTupD 2 (gsCons (gNm 4) (gsCons (gNm 5) (gsNil))))) (sSeq (sExpr (eMth gApp (eVar 2) (aCons (eTup (aCons (eVar 6) (aCons (eVar 7) (aCons (eVar 4) (aCons (eVar 5) (aNil)))))) (aNil)))) (sSet 3 (eVar 8))))))) (sSeq (sAsg (eBin gIx (eVar 1) (eB gLen (aCons (eVar 0) (aNil)))) (gTupD 2 (gsCons (gNm 4) (gsCons (gNm 5) (gsNil))))) (sSeq (sExpr (eMth gApp (eVar 2) (aCons (eTup (aCons (eC (.str "end")) (aCons (eC (.str "")) (aCons (eVar 4) (aCons (eVar 5) (aNil)))))) (aNil)))) (sRetR (eVar 2)))))))
theorem d_split {P : Program} {w : World} {K : PySem.W.Frag} {mg : Str → Option Value} {base : Heap} {j : Nat} {g_find_positions : FD} {k_find_positions : Nat} (F_find_positions : FnD P w K mg base k_find_positions "find_positions" 1 g_find_positions) (hk_find_positions : k_find_positions ≤ j) {g_sign_at : FD} {k_sign_at : Nat} (F_sign_at : FnN P w K mg base k_sign_at "sign_at" 3 g_sign_at) (hk_sign_at : k_sign_at ≤ j) (m_len : mg "len" = none) {cdv : Value} {A : Around} {outer : List PySem.Env} {s : Shared} {H : Hp} {E : XK} {f : Addr} (hr : Room j (A.deeper (envOfC "split" (defScope s_split) s.heap.objs.size f cdv))) :
    DSs (cxOf (L2N.CX P w) P w K mg base NN_split "split" (defScope s_split) f cdv A outer s H E) (fun cls d _ H => E cls d H) (defBody s_split) (B_split g_find_positions g_sign_at) := by
  have tk : L2N.Takes (cxOf (L2N.CX P w) P w K mg base NN_split "split" (defScope s_split) f cdv A outer s H E) (fun cls d _ H => E cls d H) := L2N.takes_of rfl rfl rfl rfl
  have hu := hr.units
  have hu1 := units65 hr
  exact dss_cons (dset 1 sc_split.nd (de_call F_find_positions hr hk_find_positions rfl (da_cons (dv 0) (da_nil)))) (dss_cons (dset 2 sc_split.nd (de_lstO (da_nil))) (dss_cons (dset 3 sc_split.nd (de_int)) (dss_cons (ds_while PassesOwn.leaving (dt_cmp od_lt (dv 3) (de_callB cd_len rfl m_len boot_len (da_cons (dv 0) (da_nil))) (nomark _)) (dss_one (ds_if (dt_cmp (od_inA hu1) (de_ix (dv 0) (dv 3) (fun _ _ => rfl)) (de_str) (by rfl)) (dss_one (daug 3 sc_split.nd (de_int) oi_add)) (dss_cons (ds_asg (de_callN F_sign_at tk hr hk_sign_at rfl (da_cons (dv 0) (da_cons (dv 3) (da_cons (dv 1) (da_nil))))) (dg_tup rfl (dgs_cons (dgn 6 sc_split.nd) (dgs_cons (dgn 7 sc_split.nd) (dgs_cons (dgn 8 sc_split.nd) (dgs_nil)))))) (dss_cons (ds_asg (de_ix (dv 1) (dv 3) (fun _ _ => rfl)) (dg_tup rfl (dgs_cons (dgn 4 sc_split.nd) (dgs_cons (dgn 5 sc_split.nd) (dgs_nil))))) (dss_cons (ds_expr (de_mth md_append PySem.F.slot_list_append PySem.F.type_list_append (dv 2) (da_cons (de_tup (da_cons (dv 6) (da_cons (dv 7) (da_cons (dv 4) (da_cons (dv 5) (da_nil)))))) (da_nil)))) (dss_one (dset 3 sc_split.nd (dv 8))))))))) (dss_cons (ds_asg (de_ix (dv 1) (de_callB cd_len rfl m_len boot_len (da_cons (dv 0) (da_nil))) (fun _ _ => rfl)) (dg_tup rfl (dgs_cons (dgn 4 sc_split.nd) (dgs_cons (dgn 5 sc_split.nd) (dgs_nil))))) (dss_cons (ds_expr (de_mth md_append PySem.F.slot_list_append PySem.F.type_list_append (dv 2) (da_cons (de_tup (da_cons (de_str) (da_cons (de_str) (da_cons (dv 4) (da_cons (dv 5) (da_nil)))))) (da_nil)))) (dss_one (ds_retR (dv 2))))))))
abbrev s_find_positions : Stmt := topS 18
abbrev NN_find_positions : List Str := ["text", "positions", "line", "column", "character"]
theorem sc_find_positions : FnScope NN_find_positions ["text"] (defScope s_find_positions) := ⟨rfl, rfl, rfl, by decide +kernel, rfl, by decide +kernel, by decide +kernel⟩
noncomputable def B_find_positions : SD := sSeq (sSet 1 (eLstO (aNil))) (sSeq (sSet 2 (eC (.int 1))) (sSeq (sSet 3 (eC (.int 1))) (sSeq (sFor (iTxt (eVar 0)) (gNm 4) (sSeq (sExpr (eMth gApp (eVar 1) (aCons (eTup (aCons (eVar 2) (aCons (eVar 3) (aNil)))) (aNil)))) (sSeq (sAug 3 (eC (.int 1)) gAddI) (sIf (asB (eBin (gEq false) (eVar 4) (eC (.str "\n")))) (sSeq (sAug 2 (eC (.int 1)) gAddI) (sSet 3 (eC (.int 1)))) (sNil))))) (sSeq (sExpr (eMth gApp (eVar 1) (aCons (eTup (aCons (eVar 2) (aCons (eVar 3) (aNil)))) (aNil)))) (sRetR (eVar 1))))))
theorem d_find_positions {P : Program} {w : World} {K : PySem.W.Frag} {mg : Str → Option Value} {base : Heap} {j : Nat} {cdv : Value} {A : Around} {outer : List PySem.Env} {s : Shared} {H : Hp} {E : XK} {f : Addr} (hr : Room j (A.deeper (envOfC "find_positions" (defScope s_find_positions) s.heap.objs.size f cdv))) :
    DSs (cxOf CX0 P w K mg base NN_find_positions "find_positions" (defScope s_find_positions) f cdv A outer s H E).nox (fun _ _ _ _ => False) (defBody s_find_positions) (B_find_positions) := by
  have hu := hr.units
  have hu1 := units65 hr
  exact dss_cons (dset 1 sc_find_positions.nd (de_lstO (da_nil))) (dss_cons (dset 2 sc_find_positions.nd (de_int)) (dss_cons (dset 3 sc_find_positions.nd (de_int)) (dss_cons (ds_for PassesOwn.never rfl (di_txt (dv 0)) (dgn 4 sc_find_positions.nd) (dss_cons (ds_expr (de_mth md_append PySem.F.slot_list_append PySem.F.type_list_append (dv 1) (da_cons (de_tup (da_cons (dv 2) (da_cons (dv 3) (da_nil)))) (da_nil)))) (dss_cons (daug 3 sc_find_positions.nd (de_int) oi_add) (dss_one (ds_if (dt_cmp (od_eq hu) (dv 4) (de_str) (nomark _)) (dss_cons (daug 2 sc_find_positions.nd (de_int) oi_add) (dss_one (dset 3 sc_find_positions.nd (de_int)))) (dss_nil)))))) (dss_cons (ds_expr (de_mth md_append PySem.F.slot_list_append PySem.F.type_list_append (dv 1) (da_cons (de_tup (da_cons (dv 2) (da_cons (dv 3) (da_nil)))) (da_nil)))) (dss_one (ds_retR (dv 1)))))))
abbrev s_sign_at : Stmt := topS 19
abbrev NN_sign_at : List Str := ["text", "at", "positions", "character", "end", "line", "column"]
theorem sc_sign_at : FnScope NN_sign_at ["text", "at", "positions"] (defScope s_sign_at) := ⟨rfl, rfl, rfl, by decide +kernel, rfl, by decide +kernel, by decide +kernel⟩
noncomputable def B_sign_at (g_run_end : FD) (g_quoted_end : FD) : SD := sSeq (sSet 3 (eBin gIx (eVar 0) (eVar 1))) (sSeq (sIf (asB (eBin (gInA false) (eVar 3) (eC (.str "abcdefghijklmnopqrstuvwxyzABCDEFGHIJKLMNOPQRSTUVWXYZ")))) (sSeq (sSet 4 (eCallX 6 g_run_end (aCons (eVar 0) (aCons (eVar 1) (aCons (eC (.str "_0123456789abcdefghijklmnopqrstuvwxyzABCDEFGHIJKLMNOPQRSTUVWXYZ")) (aCons (eC (.int 20)) (aCons (eVar 2) (aCons (eC (.str "name too long")) (aNil))))))))) (sRetR (eTup (aCons (eC (.str "word")) (aCons (eSl (eVar 0) (oSome (eVar 1)) (oSome (eVar 4))) (aCons (eVar 4) (aNil))))))) (sNil)) (sSeq (sIf (asB (eBin (gInA false) (eVar 3) (eC (.str "0123456789")))) (sSeq (sSet 4 (eCallX 6 g_run_end (aCons (eVar 0) (aCons (eVar 1) (aCons (eC (.str "0123456789")) (aCons (eC (.int 9)) (aCons (eVar 2) (aCons (eC (.str "number too long")) (aNil))))))))) (sRetR (eTup (aCons (eC (.str "number")) (aCons (eB gToIntT (aCons (eSl (eVar 0) (oSome (eVar 1)) (oSome (eVar 4))) (aNil))) (aCons (eVar 4) (aNil))))))) (sNil)) (sSeq (sIf (asB (eBin (gEq false) (eVar 3) (eC (.str "\"")))) (sSeq (sSet 4 (eCallX 3 g_quoted_end (aCons (eVar 0) (aCons (eVar 1) (aCons (eVar 2) (aNil)))))) (sRetR (eTup (aCons (eC (.str "quoted")) (aCons (eRepl (eSl (eVar 0) (oSome (eBin gAdd (eVar 1) (eC (.int 1)))) (oSome (eBin gSub (eVar 4) (eC (.int 1))))) "\"\"" "\"") (aCons (eVar 4) (aNil))))))) (sNil)) (sSeq (sIf (asB (eBin (gInA false) (eVar 3) (eC (.str ",;(){}=|*+?")))) (sRetR (eTup (aCons (eC (.str "symbol")) (aCons (eVar 3) (aCons (eBin gAdd (eVar 1) (eC (.int 1))) (aNil)))))) (sNil)) (sSeq (sAsg (eBin gIx (eVar 2) (eVar 1)) (gTupD 2 (gsCons (gNm 5) (gsCons (gNm 6) (gsNil))))) (sRaise (mMk "Fault" 3 fl_Fault ok_Fault (aCons (eVar 5) (aCons (eVar 6) (aCons (eC (.str "unexpected character")) (aNil)))))))))))
theorem d_sign_at {P : Program} {w : World} {K : PySem.W.Frag} {mg : Str → Option Value} {base : Heap} {j : Nat} {ac_Fault fi_Fault : Addr} {fdi_Fault : FuncData} (T_Fault : OexC K ac_Fault) (iC_Fault : PySem.W.findIn K (.ref ac_Fault) "__init__" = some (some (.ref fi_Fault))) (tI_Fault : PySem.W.typeIn K (.ref fi_Fault) = some (.type "function")) (I_Fault : FnOk P w K mg base CX0 1 fi_Fault fdi_Fault ["self", "line", "column", "reason"] (spInit ac_Fault 3 fl_Fault ok_Fault)) (bI_Fault : Binds K fdi_Fault ["self", "line", "column", "reason"] []) (gc_Fault : mg "Fault" = some (.ref ac_Fault)) (hkI : 2 ≤ j) {g_run_end : FD} {k_run_end : Nat} (F_run_end : FnN P w K mg base k_run_end "run_end" 6 g_run_end) (hk_run_end : k_run_end ≤ j) {g_quoted_end : FD} {k_quoted_end : Nat} (F_quoted_end : FnN P w K mg base k_quoted_end "quoted_end" 3 g_quoted_end) (hk_quoted_end : k_quoted_end ≤ j) (m_int : mg "int" = none) (c_DIGITS : ∃ t, mg "DIGITS" = some (.str "0123456789" t)) (c_IN_WORDS : ∃ t, mg "IN_WORDS" = some (.str "_0123456789abcdefghijklmnopqrstuvwxyzABCDEFGHIJKLMNOPQRSTUVWXYZ" t)) (c_LETTERS : ∃ t, mg "LETTERS" = some (.str "abcdefghijklmnopqrstuvwxyzABCDEFGHIJKLMNOPQRSTUVWXYZ" t)) (c_LONGEST_NUMBER : ∃ t, mg "LONGEST_NUMBER" = some (.int 9 t)) (c_LONGEST_WORD : ∃ t, mg "LONGEST_WORD" = some (.int 20 t)) (c_SYMBOLS : ∃ t, mg "SYMBOLS" = some (.str ",;(){}=|*+?" t)) {cdv : Value} {A : Around} {outer : List PySem.Env} {s : Shared} {H : Hp} {E : XK} {f : Addr} (hr : Room j (A.deeper (envOfC "sign_at" (defScope s_sign_at) s.heap.objs.size f cdv))) :
    DSs (cxOf (L2N.CX P w) P w K mg base NN_sign_at "sign_at" (defScope s_sign_at) f cdv A outer s H E) (fun cls d _ H => E cls d H) (defBody s_sign_at) (B_sign_at g_run_end g_quoted_end) := by
  have tk : L2N.Takes (cxOf (L2N.CX P w) P w K mg base NN_sign_at "sign_at" (defScope s_sign_at) f cdv A outer s H E) (fun cls d _ H => E cls d H) := L2N.takes_of rfl rfl rfl rfl
  have hu := hr.units
  have hu1 := units65 hr
  exact dss_cons (dset 3 sc_sign_at.nd (de_ix (dv 0) (dv 1) (fun _ _ => rfl))) (dss_cons (ds_if (dt_cmp (od_inA hu1) (dv 3) (de_globS rfl c_LETTERS) (by rfl)) (dss_cons (dset 4 sc_sign_at.nd (de_callN F_run_end tk hr hk_run_end rfl (da_cons (dv 0) (da_cons (dv 1) (da_cons (de_globS rfl c_IN_WORDS) (da_cons (de_globI rfl c_LONGEST_WORD) (da_cons (dv 2) (da_cons (de_str) (da_nil))))))))) (dss_one (ds_retR (de_tup (da_cons (de_str) (da_cons (de_sl (dv 0) (do_some (dv 1)) (do_some (dv 4))) (da_cons (dv 4) (da_nil)))))))) (dss_nil)) (dss_cons (ds_if (dt_cmp (od_inA hu1) (dv 3) (de_globS rfl c_DIGITS) (by rfl)) (dss_cons (dset 4 sc_sign_at.nd (de_callN F_run_end tk hr hk_run_end rfl (da_cons (dv 0) (da_cons (dv 1) (da_cons (de_globS rfl c_DIGITS) (da_cons (de_globI rfl c_LONGEST_NUMBER) (da_cons (dv 2) (da_cons (de_str) (da_nil))))))))) (dss_one (ds_retR (de_tup (da_cons (de_str) (da_cons (de_callT cd_intT rfl m_int (by decide +kernel) (da_cons (de_sl (dv 0) (do_some (dv 1)) (do_some (dv 4))) (da_nil))) (da_cons (dv 4) (da_nil)))))))) (dss_nil)) (dss_cons (ds_if (dt_cmp (od_eq hu) (dv 3) (de_str) (nomark _)) (dss_cons (dset 4 sc_sign_at.nd (de_callN F_quoted_end tk hr hk_quoted_end rfl (da_cons (dv 0) (da_cons (dv 1) (da_cons (dv 2) (da_nil)))))) (dss_one (ds_retR (de_tup (da_consT (dat_cons (det_repl (de_sl (dv 0) (do_some (de_bin od_add (dv 1) (de_int))) (do_some (de_bin od_sub (dv 4) (de_int))))) (dat_of (da_cons (dv 4) (da_nil))))))))) (dss_nil)) (dss_cons (ds_if (dt_cmp (od_inA hu1) (dv 3) (de_globS rfl c_SYMBOLS) (by rfl)) (dss_one (ds_retR (de_tup (da_cons (de_str) (da_cons (dv 3) (da_cons (de_bin od_add (dv 1) (de_int)) (da_nil))))))) (dss_nil)) (dss_cons (ds_asg (de_ix (dv 2) (dv 1) (fun _ _ => rfl)) (dg_tup rfl (dgs_cons (dgn 5 sc_sign_at.nd) (dgs_cons (dgn 6 sc_sign_at.nd) (dgs_nil))))) (dss_one (ds_raise rfl tk (dm_oex T_Fault iC_Fault tI_Fault I_Fault hr hkI bI_Fault (by decide) rfl gc_Fault (da_cons (dv 5) (da_cons (dv 6) (da_cons (de_str) (da_nil))))))))))))
abbrev s_run_end : Stmt := topS 20
abbrev NN_run_end : List Str := ["text", "at", "characters", "longest", "positions", "reason", "end", "line", "column"]
theorem sc_run_end : FnScope NN_run_end ["text", "at", "characters", "longest", "positions", "reason"] (defScope s_run_end) := ⟨rfl, rfl, rfl, by decide +kernel, rfl, by decide +kernel, by decide +kernel⟩
noncomputable def B_run_end : SD := sSeq (sSet 6 (eVar 1)) (sSeq (sWhile 100000 (bAnd (asB (eBin gLt (eVar 6) (eB gLen (aCons (eVar 0) (aNil))))) (asB (eBin (gInA false) (eBin gIx (eVar 0) (eVar 6)) (eVar 2)))) (sSeq (sIf (asB (eBin (gEq false) (eVar 6) (eBin gAdd (eVar 1) (eVar 3)))) (sSeq (sAsg (eBin gIx (eVar 4) (eVar 6)) (gTupD 2 (gsCons (gNm 7) (gsCons (gNm 8) (gsNil))))) (sRaise (mMk "Fault" 3 fl_Fault ok_Fault (aCons (eVar 7) (aCons (eVar 8) (aCons (eVar 5) (aNil))))))) (sNil)) (sAug 6 (eC (.int 1)) gAddI))) (sRetR (eVar 6)))
theorem d_run_end {P : Program} {w : World} {K : PySem.W.Frag} {mg : Str → Option Value} {base : Heap} {j : Nat} {ac_Fault fi_Fault : Addr} {fdi_Fault : FuncData} (T_Fault : OexC K ac_Fault) (iC_Fault : PySem.W.findIn K (.ref ac_Fault) "__init__" = some (some (.ref fi_Fault))) (tI_Fault : PySem.W.typeIn K (.ref fi_Fault) = some (.type "function")) (I_Fault : FnOk P w K mg base CX0 1 fi_Fault fdi_Fault ["self", "line", "column", "reason"] (spInit ac_Fault 3 fl_Fault ok_Fault)) (bI_Fault : Binds K fdi_Fault ["self", "line", "column", "reason"] []) (gc_Fault : mg "Fault" = some (.ref ac_Fault)) (hkI : 2 ≤ j) (m_len : mg "len" = none) {cdv : Value} {A : Around} {outer : List PySem.Env} {s : Shared} {H : Hp} {E : XK} {f : Addr} (hr : Room j (A.deeper (envOfC "run_end" (defScope s_run_end) s.heap.objs.size f cdv))) :
    DSs (cxOf (L2N.CX P w) P w K mg base NN_run_end "run_end" (defScope s_run_end) f cdv A outer s H E) (fun cls d _ H => E cls d H) (defBody s_run_end) (B_run_end) := by
  have tk : L2N.Takes (cxOf (L2N.CX P w) P w K mg base NN_run_end "run_end" (defScope s_run_end) f cdv A outer s H E) (fun cls d _ H => E cls d H) := L2N.takes_of rfl rfl rfl rfl
  have hu := hr.units
  have hu1 := units65 hr
  exact dss_cons (dset 6 sc_run_end.nd (dv 1)) (dss_cons (ds_while PassesOwn.leaving (DW.pt (dw_and (dt_cmp od_lt (dv 6) (de_callB cd_len rfl m_len boot_len (da_cons (dv 0) (da_nil))) (nomark _)) (dw_and1 (dt_cmp (od_inA hu1) (de_ix (dv 0) (dv 6) (fun _ _ => rfl)) (dv 2) (by rfl))))) (dss_cons (ds_if (dt_cmp (od_eq hu) (dv 6) (de_bin od_add (dv 1) (dv 3)) (nomark _)) (dss_cons (ds_asg (de_ix (dv 4) (dv 6) (fun _ _ => rfl)) (dg_tup rfl (dgs_cons (dgn 7 sc_run_end.nd) (dgs_cons (dgn 8 sc_run_end.nd) (dgs_nil))))) (dss_one (ds_raise rfl tk (dm_oex T_Fault iC_Fault tI_Fault I_Fault hr hkI bI_Fault (by decide) rfl gc_Fault (da_cons (dv 7) (da_cons (dv 8) (da_cons (dv 5) (da_nil)))))))) (dss_nil)) (dss_one (daug 6 sc_run_end.nd (de_int) oi_add)))) (dss_one (ds_retR (dv 6))))
abbrev s_quoted_end : Stmt := topS 21
abbrev NN_quoted_end : List Str := ["text", "at", "positions", "end", "line", "column"]
theorem sc_quoted_end : FnScope NN_quoted_end ["text", "at", "positions"] (defScope s_quoted_end) := ⟨rfl, rfl, rfl, by decide +kernel, rfl, by decide +kernel, by decide +kernel⟩
noncomputable def B_quoted_end : SD := sSeq (sSet 3 (eBin gAdd (eVar 1) (eC (.int 1)))) (sSeq (sWhile 100000 (asB (eBin gLt (eVar 3) (eB gLen (aCons (eVar 0) (aNil))))) (sIf (asB (eBin (gEq true) (eBin gIx (eVar 0) (eVar 3)) (eC (.str "\"")))) (sAug 3 (eC (.int 1)) gAddI) (sIf (asB (eBin (gEq false) (eSl (eVar 0) (oSome (eVar 3)) (oSome (eBin gAdd (eVar 3) (eC (.int 2))))) (eC (.str "\"\"")))) (sAug 3 (eC (.int 2)) gAddI) (sRetR (eBin gAdd (eVar 3) (eC (.int 1))))))) (sSeq (sAsg (eBin gIx (eVar 2) (eB gLen (aCons (eVar 0) (aNil)))) (gTupD 2 (gsCons (gNm 4) (gsCons (gNm 5) (gsNil))))) (sRaise (mMk "Fault" 3 fl_Fault ok_Fault (aCons (eVar 4) (aCons (eVar 5) (aCons (eC (.str "quoted text without an end")) (aNil))))))))
theorem d_quoted_end {P : Program} {w : World} {K : PySem.W.Frag} {mg : Str → Option Value} {base : Heap} {j : Nat} {ac_Fault fi_Fault : Addr} {fdi_Fault : FuncData} (T_Fault : OexC K ac_Fault) (iC_Fault : PySem.W.findIn K (.ref ac_Fault) "__init__" = some (some (.ref fi_Fault))) (tI_Fault : PySem.W.typeIn K (.ref fi_Fault) = some (.type "function")) (I_Fault : FnOk P w K mg base CX0 1 fi_Fault fdi_Fault ["self", "line", "column", "reason"] (spInit ac_Fault 3 fl_Fault ok_Fault)) (bI_Fault : Binds K fdi_Fault ["self", "line", "column", "reason"] []) (gc_Fault : mg "Fault" = some (.ref ac_Fault)) (hkI : 2 ≤ j) (m_len : mg "len" = none) {cdv : Value} {A : Around} {outer : List PySem.Env} {s : Shared} {H : Hp} {E : XK} {f : Addr} (hr : Room j (A.deeper (envOfC "quoted_end" (defScope s_quoted_end) s.heap.objs.size f cdv))) :
    DSs (cxOf (L2N.CX P w) P w K mg base NN_quoted_end "quoted_end" (defScope s_quoted_end) f cdv A outer s H E) (fun cls d _ H => E cls d H) (defBody s_quoted_end) (B_quoted_end) := by
  have tk : L2N.Takes (cxOf (L2N.CX P w) P w K mg base NN_quoted_end "quoted_end" (defScope s_quoted_end) f cdv A outer s H E) (fun cls d _ H => E cls d H) := L2N.takes_of rfl rfl rfl rfl
  have hu := hr.units
  have hu1 := units65 hr
  exact dss_cons (dset 3 sc_quoted_end.nd (de_bin od_add (dv 1) (de_int))) (dss_cons (ds_while PassesOwn.leaving (dt_cmp od_lt (dv 3) (de_callB cd_len rfl m_len boot_len (da_cons (dv 0) (da_nil))) (nomark _)) (dss_one (ds_if (dt_cmp (od_ne hu) (de_ix (dv 0) (dv 3) (fun _ _ => rfl)) (de_str) (nomark _)) (dss_one (daug 3 sc_quoted_end.nd (de_int) oi_add)) (dss_one (ds_if (dt_cmp (od_eq hu) (de_sl (dv 0) (do_some (dv 3)) (do_some (de_bin od_add (dv 3) (de_int)))) (de_str) (nomark _)) (dss_one (daug 3 sc_quoted_end.nd (de_int) oi_add)) (dss_one (ds_retR (de_bin od_add (dv 3) (de_int))))))))) (dss_cons (ds_asg (de_ix (dv 2) (de_callB cd_len rfl m_len boot_len (da_cons (dv 0) (da_nil))) (fun _ _ => rfl)) (dg_tup rfl (dgs_cons (dgn 4 sc_quoted_end.nd) (dgs_cons (dgn 5 sc_quoted_end.nd) (dgs_nil))))) (dss_one (ds_raise rfl tk (dm_oex T_Fault iC_Fault tI_Fault I_Fault hr hkI bI_Fault (by decide) rfl gc_Fault (da_cons (dv 4) (da_cons (dv 5) (da_cons (de_str) (da_nil)))))))))
abbrev s_law_is_integer : Stmt := topS 23
abbrev NN_law_is_integer : List Str := ["actual"]
theorem sc_law_is_integer : FnScope NN_law_is_integer ["actual"] (defScope s_law_is_integer) := ⟨rfl, rfl, rfl, by decide +kernel, rfl, by decide +kernel, by decide +kernel⟩
noncomputable def B_law_is_integer : SD := sRetR (eAnd (eIsi "int" (eVar 0)) (eNot (eIsi "bool" (eVar 0))))
theorem d_law_is_integer {P : Program} {w : World} {K : PySem.W.Frag} {mg : Str → Option Value} {base : Heap} {j : Nat} (m_bool : mg "bool" = none) (m_int : mg "int" = none) (m_isinstance : mg "isinstance" = none) {cdv : Value} {A : Around} {outer : List PySem.Env} {s : Shared} {H : Hp} {E : XK} {f : Addr} (hr : Room j (A.deeper (envOfC "_law_is_integer" (defScope s_law_is_integer) s.heap.objs.size f cdv))) :
    DSs (cxOf CX0 P w K mg base NN_law_is_integer "_law_is_integer" (defScope s_law_is_integer) f cdv A outer s H E).nox (fun _ _ _ _ => False) (defBody s_law_is_integer) (B_law_is_integer) := by
  have hu := hr.units
  have hu1 := units65 hr
  exact dss_one (ds_retR (de_and (de_isi rfl m_isinstance rfl m_int (by decide +kernel) (dv 0)) (de_one (de_not (de_isi rfl m_isinstance rfl m_bool (by decide +kernel) (dv 0))))))
abbrev s_law_cell : Stmt := topS 24
abbrev NN_law_cell : List Str := ["script", "k"]
theorem sc_law_cell : FnScope NN_law_cell ["script", "k"] (defScope s_law_cell) := ⟨rfl, rfl, rfl, by decide +kernel, rfl, by decide +kernel, by decide +kernel⟩
noncomputable def B_law_cell : SD := sSeq (sIf (asB (eBin gLt (eVar 1) (eB gLen (aCons (eVar 0) (aNil))))) (sRetR (eBin gIx (eVar 0) (eVar 1))) (sNil)) (sRetR (eC (.int 0)))
theorem d_law_cell {P : Program} {w : World} {K : PySem.W.Frag} {mg : Str → Option Value} {base : Heap} {j : Nat} (m_len : mg "len" = none) {cdv : Value} {A : Around} {outer : List PySem.Env} {s : Shared} {H : Hp} {E : XK} {f : Addr} (hr : Room j (A.deeper (envOfC "_law_cell" (defScope s_law_cell) s.heap.objs.size f cdv))) :
    DSs (cxOf CX0 P w K mg base NN_law_cell "_law_cell" (defScope s_law_cell) f cdv A outer s H E).nox (fun _ _ _ _ => False) (defBody s_law_cell) (B_law_cell) := by
  have hu := hr.units
  have hu1 := units65 hr
  exact dss_cons (ds_if (dt_cmp od_lt (dv 1) (de_callB cd_len rfl m_len boot_len (da_cons (dv 0) (da_nil))) (nomark _)) (dss_one (ds_retR (de_ix (dv 0) (dv 1) (fun _ _ => rfl)))) (dss_nil)) (dss_one (ds_retR (de_int)))
abbrev s_law_same : Stmt := topS 26
abbrev NN_law_same : List Str := ["actual", "due", "k"]
theorem sc_law_same : FnScope NN_law_same ["actual", "due"] (defScope s_law_same) := ⟨rfl, rfl, rfl, by decide +kernel, rfl, by decide +kernel, by decide +kernel⟩
noncomputable def B_law_same (g_law_is_integer : FD) (g_law_same : FD) : SD := sSeq (sIf (bTru (eIsi "tuple" (eVar 1))) (sSeq (sIf (bOr (bNot (bTru (eIsi "tuple" (eVar 0)))) (asB (eBin (gEq true) (eB gLen (aCons (eVar 0) (aNil))) (eB gLen (aCons (eVar 1) (aNil)))))) (sRetR (eC (.bool false))) (sNil)) (sSeq (sFor (iRgA (aCons (eB gLen (aCons (eVar 1) (aNil))) (aNil))) (gNm 2) (sIf (bNot (bTru (eCall 2 g_law_same (aCons (eBin gIx (eVar 0) (eVar 2)) (aCons (eBin gIx (eVar 1) (eVar 2)) (aNil)))))) (sRetR (eC (.bool false))) (sNil))) (sRetR (eC (.bool true))))) (sNil)) (sSeq (sIf (bTru (eIsi "bool" (eVar 1))) (sRetR (eAnd (eIsi "bool" (eVar 0)) (eBin (gEq false) (eVar 0) (eVar 1)))) (sNil)) (sSeq (sIf (bTru (eIsi "int" (eVar 1))) (sRetR (eAnd (eCall 1 g_law_is_integer (aCons (eVar 0) (aNil))) (eBin (gEq false) (eVar 0) (eVar 1)))) (sNil)) (sRetR (eAnd (eIsi "str" (eVar 0)) (eBin (gEq false) (eVar 0) (eVar 1))))))
theorem d_law_same {P : Program} {w : World} {K : PySem.W.Frag} {mg : Str → Option Value} {base : Heap} {j : Nat} {g_law_is_integer : FD} {k_law_is_integer : Nat} (F_law_is_integer : FnD P w K mg base k_law_is_integer "_law_is_integer" 1 g_law_is_integer) (hk_law_is_integer : k_law_is_integer ≤ j) {g_law_same : FD} {k_law_same : Nat} (F_law_same : FnD P w K mg base k_law_same "_law_same" 2 g_law_same) (hk_law_same : k_law_same ≤ j) (m_bool : mg "bool" = none) (m_int : mg "int" = none) (m_isinstance : mg "isinstance" = none) (m_len : mg "len" = none) (m_range : mg "range" = none) (m_str : mg "str" = none) (m_tuple : mg "tuple" = none) {cdv : Value} {A : Around} {outer : List PySem.Env} {s : Shared} {H : Hp} {E : XK} {f : Addr} (hr : Room j (A.deeper (envOfC "_law_same" (defScope s_law_same) s.heap.objs.size f cdv))) :
    DSs (cxOf CX0 P w K mg base NN_law_same "_law_same" (defScope s_law_same) f cdv A outer s H E).nox (fun _ _ _ _ => False) (defBody s_law_same) (B_law_same g_law_is_integer g_law_same) := by
  have hu := hr.units
  have hu1 := units65 hr
  exact dss_cons (ds_if (dt_truth (de_isi rfl m_isinstance rfl m_tuple (by decide +kernel) (dv 1))) (dss_cons (ds_if (DW.pt (dw_or (dt_not (dt_truth (de_isi rfl m_isinstance rfl m_tuple (by decide +kernel) (dv 0)))) (dw_or1 (dt_cmp (od_ne hu) (de_callB cd_len rfl m_len boot_len (da_cons (dv 0) (da_nil))) (de_callB cd_len rfl m_len boot_len (da_cons (dv 1) (da_nil))) (nomark _))))) (dss_one (ds_retR (de_bl))) (dss_nil)) (dss_cons (ds_for PassesOwn.never rfl (di_range1 rfl m_range (da_cons (de_callB cd_len rfl m_len boot_len (da_cons (dv 1) (da_nil))) (da_nil))) (dgn 2 sc_law_same.nd) (dss_one (ds_if (dt_not (dt_truth (de_call F_law_same hr hk_law_same rfl (da_cons (de_ix (dv 0) (dv 2) (fun _ _ => rfl)) (da_cons (de_ix (dv 1) (dv 2) (fun _ _ => rfl)) (da_nil)))))) (dss_one (ds_retR (de_bl))) (dss_nil)))) (dss_one (ds_retR (de_bl))))) (dss_nil)) (dss_cons (ds_if (dt_truth (de_isi rfl m_isinstance rfl m_bool (by decide +kernel) (dv 1))) (dss_one (ds_retR (de_and (de_isi rfl m_isinstance rfl m_bool (by decide +kernel) (dv 0)) (de_one (de_cmp (od_eq hu) (dv 0) (dv 1) (nomark _)))))) (dss_nil)) (dss_cons (ds_if (dt_truth (de_isi rfl m_isinstance rfl m_int (by decide +kernel) (dv 1))) (dss_one (ds_retR (de_and (de_call F_law_is_integer hr hk_law_is_integer rfl (da_cons (dv 0) (da_nil))) (de_one (de_cmp (od_eq hu) (dv 0) (dv 1) (nomark _)))))) (dss_nil)) (dss_one (ds_retR (de_and (de_isi rfl m_isinstance rfl m_str (by decide +kernel) (dv 0)) (de_one (de_cmp (od_eq hu) (dv 0) (dv 1) (nomark _))))))))
abbrev s_law_digits : Stmt := topS 28
abbrev NN_law_digits : List Str := ["script", "first", "last", "digits", "k", "cell", "turn", "seed"]
theorem sc_law_digits : FnScope NN_law_digits ["script", "first", "last"] (defScope s_law_digits) := ⟨rfl, rfl, rfl, by decide +kernel, rfl, by decide +kernel, by decide +kernel⟩
noncomputable def B_law_digits (g_law_cell : FD) : SD := sSeq (sSet 3 (eLstO (aNil))) (sSeq (sFor (iRgB (aCons (eVar 1) (aCons (eVar 2) (aNil)))) (gNm 4) (sSeq (sSet 5 (eCall 2 g_law_cell (aCons (eVar 0) (aCons (eVar 4) (aNil))))) (sSeq (sIf (asB (eBin gLt (eVar 5) (eC (.int 0)))) (sSet 5 (eBin gSub (eC (.int 1)) (eBin gMul (eC (.int 2)) (eVar 5)))) (sNil)) (sIf (asB (eBin gGe (eVar 5) (eBin gPow (eC (.int 10)) (eC (.int 18))))) (sFor (iRgA (aCons (eC (.int 60)) (aNil))) (gNm 6) (sIf (asB (eBin gGt (eVar 5) (eC (.int 0)))) (sSeq (sExpr (eMth gApp (eVar 3) (aCons (eBin gMod (eB gToInt (aCons (eVar 5) (aNil))) (eC (.int 1000))) (aNil)))) (sSet 5 (eBin gFdv (eVar 5) (eC (.int 1000))))) (sNil))) (sSeq (sSet 7 (eBin gMod (eB gToInt (aCons (eBin gAdd (eBin gAdd (eBin gMul (eVar 5) (eC (.int 48271))) (eBin gMul (eVar 4) (eC (.int 69621)))) (eC (.int 11))) (aNil))) (eC (.int 2147483647)))) (sFor (iRgA (aCons (eC (.int 12)) (aNil))) (gNm 6) (sSeq (sSet 7 (eBin gMod (eB gToInt (aCons (eBin gAdd (eBin gAdd (eBin gMul (eVar 7) (eC (.int 16807))) (eBin gMul (eC (.int 7)) (eVar 6))) (eC (.int 1))) (aNil))) (eC (.int 2147483647)))) (sExpr (eMth gApp (eVar 3) (aCons (eBin gMod (eB gToInt (aCons (eBin gFdv (eVar 7) (eC (.int 997))) (aNil))) (eC (.int 1000))) (aNil))))))))))) (sRetR (eVar 3)))
theorem d_law_digits {P : Program} {w : World} {K : PySem.W.Frag} {mg : Str → Option Value} {base : Heap} {j : Nat} {g_law_cell : FD} {k_law_cell : Nat} (F_law_cell : FnD P w K mg base k_law_cell "_law_cell" 2 g_law_cell) (hk_law_cell : k_law_cell ≤ j) (m_int : mg "int" = none) (m_range : mg "range" = none) {cdv : Value} {A : Around} {outer : List PySem.Env} {s : Shared} {H : Hp} {E : XK} {f : Addr} (hr : Room j (A.deeper (envOfC "_law_digits" (defScope s_law_digits) s.heap.objs.size f cdv))) :
    DSs (cxOf CX0 P w K mg base NN_law_digits "_law_digits" (defScope s_law_digits) f cdv A outer s H E).nox (fun _ _ _ _ => False) (defBody s_law_digits) (B_law_digits g_law_cell) := by
  have hu := hr.units
  have hu1 := units65 hr
  exact dss_cons (dset 3 sc_law_digits.nd (de_lstO (da_nil))) (dss_cons (ds_for PassesOwn.never rfl (di_range2 rfl m_range (da_cons (dv 1) (da_cons (dv 2) (da_nil)))) (dgn 4 sc_law_digits.nd) (dss_cons (dset 5 sc_law_digits.nd (de_call F_law_cell hr hk_law_cell rfl (da_cons (dv 0) (da_cons (dv 4) (da_nil))))) (dss_cons (ds_if (dt_cmp od_lt (dv 5) (de_int) (nomark _)) (dss_one (dset 5 sc_law_digits.nd (de_bin od_sub (de_int) (de_bin od_mul (de_int) (dv 5))))) (dss_nil)) (dss_one (ds_if (dt_cmp od_ge (dv 5) (de_bin od_pow (de_int) (de_int)) (nomark _)) (dss_one (ds_for PassesOwn.never rfl (di_range1 rfl m_range (da_cons (de_int) (da_nil))) (dgn 6 sc_law_digits.nd) (dss_one (ds_if (dt_cmp od_gt (dv 5) (de_int) (nomark _)) (dss_cons (ds_expr (de_mth md_append PySem.F.slot_list_append PySem.F.type_list_append (dv 3) (da_cons (de_bin od_mod (de_callT cd_int rfl m_int (by decide +kernel) (da_cons (dv 5) (da_nil))) (de_int)) (da_nil)))) (dss_one (dset 5 sc_law_digits.nd (de_bin od_fdv (dv 5) (de_int))))) (dss_nil))))) (dss_cons (dset 7 sc_law_digits.nd (de_bin od_mod (de_callT cd_int rfl m_int (by decide +kernel) (da_cons (de_bin od_add (de_bin od_add (de_bin od_mul (dv 5) (de_int)) (de_bin od_mul (dv 4) (de_int))) (de_int)) (da_nil))) (de_int))) (dss_one (ds_for PassesOwn.never rfl (di_range1 rfl m_range (da_cons (de_int) (da_nil))) (dgn 6 sc_law_digits.nd) (dss_cons (dset 7 sc_law_digits.nd (de_bin od_mod (de_callT cd_int rfl m_int (by decide +kernel) (da_cons (de_bin od_add (de_bin od_add (de_bin od_mul (dv 7) (de_int)) (de_bin od_mul (de_int) (dv 6))) (de_int)) (da_nil))) (de_int))) (dss_one (ds_expr (de_mth md_append PySem.F.slot_list_append PySem.F.type_list_append (dv 3) (da_cons (de_bin od_mod (de_callT cd_int rfl m_int (by decide +kernel) (da_cons (de_bin od_fdv (dv 7) (de_int)) (da_nil))) (de_int)) (da_nil)))))))))))))) (dss_one (ds_retR (dv 3))))
abbrev s_law_draw : Stmt := topS 29
abbrev NN_law_draw : List Str := ["box", "many", "at"]
theorem sc_law_draw : FnScope NN_law_draw ["box", "many"] (defScope s_law_draw) := ⟨rfl, rfl, rfl, by decide +kernel, rfl, by decide +kernel, by decide +kernel⟩
noncomputable def B_law_draw : SD := sSeq (sSet 2 (eBin gIx (eVar 0) (eC (.int 1)))) (sSeq (sAsg (eBin gAdd (eVar 2) (eC (.int 1))) (gSetL (eVar 0) (eC (.int 1)))) (sSeq (sIf (asB (eBin gLt (eVar 2) (eB gLen (aCons (eBin gIx (eVar 0) (eC (.int 0))) (aNil))))) (sRetR (eBin gMod (eB gToInt (aCons (eBin gIx (eBin gIx (eVar 0) (eC (.int 0))) (eVar 2)) (aNil))) (eVar 1))) (sNil)) (sRetR (eBin gMod (eB gToInt (aCons (eBin gAdd (eBin gMul (eVar 2) (eC (.int 7))) (eC (.int 3))) (aNil))) (eVar 1)))))
theorem d_law_draw {P : Program} {w : World} {K : PySem.W.Frag} {mg : Str → Option Value} {base : Heap} {j : Nat} (m_int : mg "int" = none) (m_len : mg "len" = none) {cdv : Value} {A : Around} {outer : List PySem.Env} {s : Shared} {H : Hp} {E : XK} {f : Addr} (hr : Room j (A.deeper (envOfC "_law_draw" (defScope s_law_draw) s.heap.objs.size f cdv))) :
    DSs (cxOf CX0 P w K mg base NN_law_draw "_law_draw" (defScope s_law_draw) f cdv A outer s H E).nox (fun _ _ _ _ => False) (defBody s_law_draw) (B_law_draw) := by
  have hu := hr.units
  have hu1 := units65 hr
  exact dss_cons (dset 2 sc_law_draw.nd (de_ix (dv 0) (de_int) (fun _ _ => rfl))) (dss_cons (ds_asg (de_bin od_add (dv 2) (de_int)) (dg_setL (dv 0) (de_int))) (dss_cons (ds_if (dt_cmp od_lt (dv 2) (de_callB cd_len rfl m_len boot_len (da_cons (de_ix (dv 0) (de_int) (fun _ _ => rfl)) (da_nil))) (nomark _)) (dss_one (ds_retR (de_bin od_mod (de_callT cd_int rfl m_int (by decide +kernel) (da_cons (de_ix (de_ix (dv 0) (de_int) (fun _ _ => rfl)) (dv 2) (fun _ _ => rfl)) (da_nil))) (dv 1)))) (dss_nil)) (dss_one (ds_retR (de_bin od_mod (de_callT cd_int rfl m_int (by decide +kernel) (da_cons (de_bin od_add (de_bin od_mul (dv 2) (de_int)) (de_int)) (da_nil))) (dv 1))))))
abbrev s_law_only : Stmt := topS 30
abbrev NN_law_only : List Str := ["e", "kinds", "others"]
theorem sc_law_only : FnScope NN_law_only ["e", "kinds"] (defScope s_law_only) := ⟨rfl, rfl, rfl, by decide +kernel, rfl, by decide +kernel, by decide +kernel⟩
noncomputable def B_law_only (a0 : Addr) (d0 : Option Addr) (r_BadReading : Bool) (r_BadRegion : Bool) (r_TooLarge : Bool) (r_Fault : Bool) (r_TooMany : Bool) (r_OutsideImage : Bool) (r_BadNumbers : Bool) (r_BadWords : Bool) (r_ValueError : Bool) : SD := sSeq (sSet 2 (eLst (aCons (eIsE a0 d0 r_Fault (eVar 0)) (aCons (eIsE a0 d0 r_TooLarge (eVar 0)) (aCons (eIsE a0 d0 r_BadRegion (eVar 0)) (aCons (eIsE a0 d0 r_BadReading (eVar 0)) (aNil))))))) (sSeq (sSet 2 (eBin gAdd (eVar 2) (eLst (aCons (eIsE a0 d0 r_OutsideImage (eVar 0)) (aCons (eIsE a0 d0 r_TooMany (eVar 0)) (aNil)))))) (sSeq (sIf (bOr (bTru (eIsE a0 d0 r_BadNumbers (eVar 0))) (bAnd (bTru (eIsE a0 d0 r_BadWords (eVar 0))) (asB (eBin (gInA false) (eC (.bool true)) (eVar 1))))) (sRetR (eC (.bool false))) (sNil)) (sRetR (eAnd (eIsE a0 d0 r_ValueError (eVar 0)) (eBin (gEq false) (eVar 2) (eVar 1))))))
theorem d_law_only {P : Program} {w : World} {K : PySem.W.Frag} {mg : Str → Option Value} {base : Heap} {j : Nat} {cn : Str} {D0 : Addr} {dk : Bool} (C0 : ExcC K D0) (hc0 : mg cn = some (.ref D0)) {a_BadReading : Addr} {r_BadReading : Bool} (m_BadReading : mg "BadReading" = some (.ref a_BadReading)) (q_BadReading : PySem.W.kitOne K (.ref D0) (.ref a_BadReading) = some r_BadReading) {a_BadRegion : Addr} {r_BadRegion : Bool} (m_BadRegion : mg "BadRegion" = some (.ref a_BadRegion)) (q_BadRegion : PySem.W.kitOne K (.ref D0) (.ref a_BadRegion) = some r_BadRegion) {a_TooLarge : Addr} {r_TooLarge : Bool} (m_TooLarge : mg "TooLarge" = some (.ref a_TooLarge)) (q_TooLarge : PySem.W.kitOne K (.ref D0) (.ref a_TooLarge) = some r_TooLarge) {a_Fault : Addr} {r_Fault : Bool} (m_Fault : mg "Fault" = some (.ref a_Fault)) (q_Fault : PySem.W.kitOne K (.ref D0) (.ref a_Fault) = some r_Fault) {a_TooMany : Addr} {r_TooMany : Bool} (m_TooMany : mg "TooMany" = some (.ref a_TooMany)) (q_TooMany : PySem.W.kitOne K (.ref D0) (.ref a_TooMany) = some r_TooMany) {a_OutsideImage : Addr} {r_OutsideImage : Bool} (m_OutsideImage : mg "OutsideImage" = some (.ref a_OutsideImage)) (q_OutsideImage : PySem.W.kitOne K (.ref D0) (.ref a_OutsideImage) = some r_OutsideImage) {a_BadNumbers : Addr} {r_BadNumbers : Bool} (m_BadNumbers : mg "BadNumbers" = some (.ref a_BadNumbers)) (q_BadNumbers : PySem.W.kitOne K (.ref D0) (.ref a_BadNumbers) = some r_BadNumbers) {a_BadWords : Addr} {r_BadWords : Bool} (m_BadWords : mg "BadWords" = some (.ref a_BadWords)) (q_BadWords : PySem.W.kitOne K (.ref D0) (.ref a_BadWords) = some r_BadWords) {r_ValueError : Bool} (m_ValueError : mg "ValueError" = none) (q_ValueError : PySem.W.kitOne K (.ref D0) (.type "ValueError") = some r_ValueError) (m_isinstance : mg "isinstance" = none) {cdv : Value} {A : Around} {outer : List PySem.Env} {s : Shared} {H : Hp} {E : XK} {f : Addr} {p : Addr × Obj} {d0 : Option Addr} (hr : L2H.RoomH j (A.deeper (envOfC "_law_only" (defScope s_law_only) s.heap.objs.size f cdv))) (hdk : d0.isSome = dk) (hx : HX (hotX P w K mg base NN_law_only "_law_only" s_law_only f cdv A outer s H E p) p.1 cn d0) :
    DSs (hotX P w K mg base NN_law_only "_law_only" s_law_only f cdv A outer s H E p) (fun _ _ _ _ => False) (defBody s_law_only) (B_law_only p.1 d0 r_BadReading r_BadRegion r_TooLarge r_Fault r_TooMany r_OutsideImage r_BadNumbers r_BadWords r_ValueError) := by
  subst hdk
  have hu : (A.deeper (envOfC "_law_only" (defScope s_law_only) s.heap.objs.size f cdv)).units + 64 < cLine := by have := hr.un; omega
  have hu1 : (A.deeper (envOfC "_law_only" (defScope s_law_only) s.heap.objs.size f cdv)).units + 65 < cLine := by have := hr.un; omega
  exact dss_cons (dset 2 sc_law_only.nd (de_lst (da_cons (de_isE C0 hx hc0 rfl m_isinstance (pe_glob rfl m_Fault (u := .ref a_Fault) (v := .ref a_Fault) rfl) (fun _ h => h) q_Fault (dv 0)) (da_cons (de_isE C0 hx hc0 rfl m_isinstance (pe_glob rfl m_TooLarge (u := .ref a_TooLarge) (v := .ref a_TooLarge) rfl) (fun _ h => h) q_TooLarge (dv 0)) (da_cons (de_isE C0 hx hc0 rfl m_isinstance (pe_glob rfl m_BadRegion (u := .ref a_BadRegion) (v := .ref a_BadRegion) rfl) (fun _ h => h) q_BadRegion (dv 0)) (da_cons (de_isE C0 hx hc0 rfl m_isinstance (pe_glob rfl m_BadReading (u := .ref a_BadReading) (v := .ref a_BadReading) rfl) (fun _ h => h) q_BadReading (dv 0)) (da_nil))))))) (dss_cons (dset 2 sc_law_only.nd (de_bin od_add (dv 2) (de_lst (da_cons (de_isE C0 hx hc0 rfl m_isinstance (pe_glob rfl m_OutsideImage (u := .ref a_OutsideImage) (v := .ref a_OutsideImage) rfl) (fun _ h => h) q_OutsideImage (dv 0)) (da_cons (de_isE C0 hx hc0 rfl m_isinstance (pe_glob rfl m_TooMany (u := .ref a_TooMany) (v := .ref a_TooMany) rfl) (fun _ h => h) q_TooMany (dv 0)) (da_nil)))))) (dss_cons (ds_if (DW.pt (dw_or (dt_truth (de_isE C0 hx hc0 rfl m_isinstance (pe_glob rfl m_BadNumbers (u := .ref a_BadNumbers) (v := .ref a_BadNumbers) rfl) (fun _ h => h) q_BadNumbers (dv 0))) (dw_or1 (DW.pt (dw_and (dt_truth (de_isE C0 hx hc0 rfl m_isinstance (pe_glob rfl m_BadWords (u := .ref a_BadWords) (v := .ref a_BadWords) rfl) (fun _ h => h) q_BadWords (dv 0))) (dw_and1 (dt_cmp (od_inA hu1) (de_bl) (dv 1) (by rfl)))))))) (dss_one (ds_retR (de_bl))) (dss_nil)) (dss_one (ds_retR (de_and (de_isE C0 hx hc0 rfl m_isinstance (pe_bltn (v := .ty "ValueError") rfl m_ValueError (u := .type "ValueError") (by decide +kernel) rfl) (fun _ h => h) q_ValueError (dv 0)) (de_one (de_cmp (od_eq hu) (dv 2) (dv 1) (nomark _))))))))
abbrev s_law_told : Stmt := topS 31
abbrev NN_law_told : List Str := ["e", "names", "k", "m"]
theorem sc_law_told : FnScope NN_law_told ["e"] (defScope s_law_told) := ⟨rfl, rfl, rfl, by decide +kernel, rfl, by decide +kernel, by decide +kernel⟩
noncomputable def B_law_told (a0 : Addr) (d0 : Option Addr) (g_law_only : Addr → Option Addr → FD) : SD := sSeq (sIf (bTru (eCall 2 (g_law_only a0 d0) (aCons (eVar 0) (aCons (eLst (aCons (eC (.bool true)) (aCons (eC (.bool false)) (aCons (eC (.bool false)) (aCons (eC (.bool false)) (aCons (eC (.bool false)) (aCons (eC (.bool false)) (aNil)))))))) (aNil))))) (sRetR (eTup (aCons (eC (.str "fault")) (aCons (eAttr a0 d0 "line" (eVar 0)) (aCons (eAttr a0 d0 "column" (eVar 0)) (aCons (eAttr a0 d0 "reason" (eVar 0)) (aNil))))))) (sNil)) (sSeq (sIf (bTru (eCall 2 (g_law_only a0 d0) (aCons (eVar 0) (aCons (eLst (aCons (eC (.bool false)) (aCons (eC (.bool true)) (aCons (eC (.bool false)) (aCons (eC (.bool false)) (aCons (eC (.bool false)) (aCons (eC (.bool false)) (aNil)))))))) (aNil))))) (sRetR (eTup (aCons (eC (.str "large")) (aCons (eAttr a0 d0 "reason" (eVar 0)) (aNil))))) (sNil)) (sSeq (sSet 1 (eLst (aCons (eC (.str "region")) (aCons (eC (.str "reading")) (aCons (eC (.str "outside")) (aCons (eC (.str "many")) (aNil))))))) (sSeq (sFor (iRgA (aCons (eC (.int 4)) (aNil))) (gNm 2) (sIf (bTru (eCall 2 (g_law_only a0 d0) (aCons (eVar 0) (aCons (eLc (iRgA (aCons (eC (.int 6)) (aNil))) (gNm 3) (bYes) (eBin (gEq false) (eBin gAdd (eVar 2) (eC (.int 2))) (eVar 3)) [3]) (aNil))))) (sRetR (eTup (aCons (eBin gIx (eVar 1) (eVar 2)) (aNil)))) (sNil))) (sRetR (eTup (aCons (eC (.str "other")) (aNil)))))))
theorem d_law_told {P : Program} {w : World} {K : PySem.W.Frag} {mg : Str → Option Value} {base : Heap} {j : Nat} {cn : Str} {D0 : Addr} {dk : Bool} (C0 : ExcC K D0) (hc0 : mg cn = some (.ref D0)) (X0 : XfC K D0) (n_reason : PySem.W.findIn K (.ref D0) "reason" = some none) (n_column : PySem.W.findIn K (.ref D0) "column" = some none) (n_line : PySem.W.findIn K (.ref D0) "line" = some none) {g_law_only : Addr → Option Addr → FD} {k_law_only : Nat} (F_law_only : FnK P w K mg base k_law_only "_law_only" 2 cn dk g_law_only) (hk_law_only : k_law_only ≤ j) (m_range : mg "range" = none) {cdv : Value} {A : Around} {outer : List PySem.Env} {s : Shared} {H : Hp} {E : XK} {f : Addr} {p : Addr × Obj} {d0 : Option Addr} (hr : L2H.RoomH j (A.deeper (envOfC "_law_told" (defScope s_law_told) s.heap.objs.size f cdv))) (hdk : d0.isSome = dk) (hx : HX (hotX P w K mg base NN_law_told "_law_told" s_law_told f cdv A outer s H E p) p.1 cn d0) :
    DSs (hotX P w K mg base NN_law_told "_law_told" s_law_told f cdv A outer s H E p) (fun _ _ _ _ => False) (defBody s_law_told) (B_law_told p.1 d0 g_law_only) := by
  subst hdk
  have hu : (A.deeper (envOfC "_law_told" (defScope s_law_told) s.heap.objs.size f cdv)).units + 64 < cLine := by have := hr.un; omega
  have hu1 : (A.deeper (envOfC "_law_told" (defScope s_law_told) s.heap.objs.size f cdv)).units + 65 < cLine := by have := hr.un; omega
  exact dss_cons (ds_if (dt_truth (de_callK hx F_law_only hr hk_law_only rfl (da_cons (dv 0) (da_cons (de_lst (da_cons (de_bl) (da_cons (de_bl) (da_cons (de_bl) (da_cons (de_bl) (da_cons (de_bl) (da_cons (de_bl) (da_nil)))))))) (da_nil))))) (dss_one (ds_retR (de_tup (da_cons (de_str) (da_cons (de_attr X0 n_line hx hc0 (dv 0)) (da_cons (de_attr X0 n_column hx hc0 (dv 0)) (da_cons (de_attr X0 n_reason hx hc0 (dv 0)) (da_nil)))))))) (dss_nil)) (dss_cons (ds_if (dt_truth (de_callK hx F_law_only hr hk_law_only rfl (da_cons (dv 0) (da_cons (de_lst (da_cons (de_bl) (da_cons (de_bl) (da_cons (de_bl) (da_cons (de_bl) (da_cons (de_bl) (da_cons (de_bl) (da_nil)))))))) (da_nil))))) (dss_one (ds_retR (de_tup (da_cons (de_str) (da_cons (de_attr X0 n_reason hx hc0 (dv 0)) (da_nil)))))) (dss_nil)) (dss_cons (dset 1 sc_law_told.nd (de_lst (da_cons (de_str) (da_cons (de_str) (da_cons (de_str) (da_cons (de_str) (da_nil))))))) (dss_cons (ds_forH PassesOwn.never hx (dih_range1 rfl m_range (da_cons (de_int) (da_nil))) (dgn 2 sc_law_told.nd) (dss_one (ds_if (dt_truth (de_callK hx F_law_only hr hk_law_only rfl (da_cons (dv 0) (da_cons (de_lcH (own := [("m", 3)]) hx sc_law_told.nd (dih_range1 rfl m_range (da_cons (de_int) (da_nil))) (blkOk_by (N := NN_law_told) (sc := defScope s_law_told) (by decide +kernel)) (fun _ _ _ _ _ => dgw 3 sc_law_told.nd (by decide)) (fun _ _ _ _ _ => dts_nil) (fun _ _ _ _ _ => de_cmp (od_eq hu) (de_bin od_add (dv 2) (de_int)) (dv 3) (nomark _))) (da_nil))))) (dss_one (ds_retR (de_tup (da_cons (de_ix (dv 1) (dv 2) (fun _ _ => rfl)) (da_nil))))) (dss_nil)))) (dss_one (ds_retR (de_tup (da_cons (de_str) (da_nil))))))))
abbrev s_law_word : Stmt := topS 32
abbrev NN_law_word : List Str := ["box", "size", "letters", "word", "k"]
theorem sc_law_word : FnScope NN_law_word ["box", "size"] (defScope s_law_word) := ⟨rfl, rfl, rfl, by decide +kernel, rfl, by decide +kernel, by decide +kernel⟩
noncomputable def B_law_word (g_law_draw : FD) : SD := sSeq (sSet 2 (eC (.str "abcXYZ_019"))) (sSeq (sSet 3 (eBin gIx (eC (.str "abXZ")) (eCall 2 g_law_draw (aCons (eVar 0) (aCons (eC (.int 4)) (aNil)))))) (sSeq (sFor (iRgA (aCons (eBin gSub (eVar 1) (eC (.int 1))) (aNil))) (gNm 4) (sSet 3 (eBin gAdd (eVar 3) (eBin gIx (eVar 2) (eCall 2 g_law_draw (aCons (eVar 0) (aCons (eC (.int 10)) (aNil)))))))) (sRetR (eVar 3))))
theorem d_law_word {P : Program} {w : World} {K : PySem.W.Frag} {mg : Str → Option Value} {base : Heap} {j : Nat} {g_law_draw : FD} {k_law_draw : Nat} (F_law_draw : FnD P w K mg base k_law_draw "_law_draw" 2 g_law_draw) (hk_law_draw : k_law_draw ≤ j) (m_range : mg "range" = none) {cdv : Value} {A : Around} {outer : List PySem.Env} {s : Shared} {H : Hp} {E : XK} {f : Addr} (hr : Room j (A.deeper (envOfC "_law_word" (defScope s_law_word) s.heap.objs.size f cdv))) :
    DSs (cxOf CX0 P w K mg base NN_law_word "_law_word" (defScope s_law_word) f cdv A outer s H E).nox (fun _ _ _ _ => False) (defBody s_law_word) (B_law_word g_law_draw) := by
  have hu := hr.units
  have hu1 := units65 hr
  exact dss_cons (dset 2 sc_law_word.nd (de_str)) (dss_cons (dset 3 sc_law_word.nd (de_ix (de_str) (de_call F_law_draw hr hk_law_draw rfl (da_cons (dv 0) (da_cons (de_int) (da_nil)))) (fun _ _ => rfl))) (dss_cons (ds_for PassesOwn.never rfl (di_range1 rfl m_range (da_cons (de_bin od_sub (dv 1) (de_int)) (da_nil))) (dgn 4 sc_law_word.nd) (dss_one (dset 3 sc_law_word.nd (de_bin od_add (dv 3) (de_ix (dv 2) (de_call F_law_draw hr hk_law_draw rfl (da_cons (dv 0) (da_cons (de_int) (da_nil)))) (fun _ _ => rfl)))))) (dss_one (ds_retR (dv 3)))))
abbrev s_law_sign : Stmt := topS 33
abbrev NN_law_sign : List Str := ["box", "kind", "symbol", "word", "digits", "value", "digit", "text", "k"]
theorem sc_law_sign : FnScope NN_law_sign ["box"] (defScope s_law_sign) := ⟨rfl, rfl, rfl, by decide +kernel, rfl, by decide +kernel, by decide +kernel⟩
noncomputable def B_law_sign (g_law_draw : FD) (g_law_word : FD) : SD := sSeq (sSet 1 (eCall 2 g_law_draw (aCons (eVar 0) (aCons (eC (.int 5)) (aNil))))) (sSeq (sIf (asB (eBin (gEq false) (eVar 1) (eC (.int 0)))) (sSeq (sSet 3 (eBin gIx (eLst (aCons (eC (.str "shape")) (aCons (eC (.str "plain")) (aCons (eC (.str "white")) (aCons (eC (.str "black")) (aCons (eC (.str "across")) (aCons (eC (.str "down")) (aCons (eC (.str "join")) (aCons (eC (.str "cost")) (aCons (eC (.str "to")) (aNil))))))))))) (eCall 2 g_law_draw (aCons (eVar 0) (aCons (eC (.int 9)) (aNil)))))) (sRetR (eLst (aCons (eC (.str "word")) (aCons (eVar 3) (aCons (eVar 3) (aNil))))))) (sNil)) (sSeq (sIf (asB (eBin (gEq false) (eVar 1) (eC (.int 1)))) (sSeq (sSet 3 (eCall 2 g_law_word (aCons (eVar 0) (aCons (eBin gAdd (eC (.int 1)) (eCall 2 g_law_draw (aCons (eVar 0) (aCons (eC (.int 20)) (aNil))))) (aNil))))) (sRetR (eLst (aCons (eC (.str "word")) (aCons (eVar 3) (aCons (eVar 3) (aNil))))))) (sNil)) (sSeq (sIf (asB (eBin (gEq false) (eVar 1) (eC (.int 2)))) (sSeq (sSet 4 (eJoin (eC (.str "")) (eLc (iRgA (aCons (eBin gAdd (eC (.int 1)) (eCall 2 g_law_draw (aCons (eVar 0) (aCons (eC (.int 9)) (aNil))))) (aNil))) (gNm 8) (bYes) (eBin gIx (eC (.str "0123456789")) (eCall 2 g_law_draw (aCons (eVar 0) (aCons (eC (.int 10)) (aNil))))) [8]))) (sSeq (sSet 5 (eC (.int 0))) (sSeq (sFor (iTxt (eVar 4)) (gNm 6) (sSet 5 (eBin gAdd (eBin gMul (eC (.int 10)) (eVar 5)) (eSIdx (eC (.str "0123456789")) (eVar 6))))) (sRetR (eLst (aCons (eC (.str "number")) (aCons (eVar 5) (aCons (eVar 4) (aNil))))))))) (sNil)) (sSeq (sIf (asB (eBin (gEq false) (eVar 1) (eC (.int 3)))) (sSeq (sSet 7 (eJoin (eC (.str "")) (eLc (iRgA (aCons (eCall 2 g_law_draw (aCons (eVar 0) (aCons (eC (.int 6)) (aNil)))) (aNil))) (gNm 8) (bYes) (eBin gIx (eC (.str "a\" \n;(#.")) (eCall 2 g_law_draw (aCons (eVar 0) (aCons (eC (.int 8)) (aNil))))) [8]))) (sRetR (eLst (aCons (eC (.str "quoted")) (aCons (eVar 7) (aCons (eBin gAdd (eBin gAdd (eC (.str "\"")) (eRepl (eVar 7) "\"" "\"\"")) (eC (.str "\""))) (aNil))))))) (sNil)) (sSeq (sSet 2 (eBin gIx (eC (.str ",;(){}=|*+?")) (eCall 2 g_law_draw (aCons (eVar 0) (aCons (eC (.int 11)) (aNil)))))) (sRetR (eLst (aCons (eC (.str "symbol")) (aCons (eVar 2) (aCons (eVar 2) (aNil)))))))))))
theorem d_law_sign {P : Program} {w : World} {K : PySem.W.Frag} {mg : Str → Option Value} {base : Heap} {j : Nat} {g_law_draw : FD} {k_law_draw : Nat} (F_law_draw : FnD P w K mg base k_law_draw "_law_draw" 2 g_law_draw) (hk_law_draw : k_law_draw ≤ j) {g_law_word : FD} {k_law_word : Nat} (F_law_word : FnD P w K mg base k_law_word "_law_word" 2 g_law_word) (hk_law_word : k_law_word ≤ j) (m_range : mg "range" = none) {cdv : Value} {A : Around} {outer : List PySem.Env} {s : Shared} {H : Hp} {E : XK} {f : Addr} (hr : Room j (A.deeper (envOfC "_law_sign" (defScope s_law_sign) s.heap.objs.size f cdv))) :
    DSs (cxOf CX0 P w K mg base NN_law_sign "_law_sign" (defScope s_law_sign) f cdv A outer s H E).nox (fun _ _ _ _ => False) (defBody s_law_sign) (B_law_sign g_law_draw g_law_word) := by
  have hu := hr.units
  have hu1 := units65 hr
  exact dss_cons (dset 1 sc_law_sign.nd (de_call F_law_draw hr hk_law_draw rfl (da_cons (dv 0) (da_cons (de_int) (da_nil))))) (dss_cons (ds_if (dt_cmp (od_eq hu) (dv 1) (de_int) (nomark _)) (dss_cons (dset 3 sc_law_sign.nd (de_ix (de_lst (da_cons (de_str) (da_cons (de_str) (da_cons (de_str) (da_cons (de_str) (da_cons (de_str) (da_cons (de_str) (da_cons (de_str) (da_cons (de_str) (da_cons (de_str) (da_nil))))))))))) (de_call F_law_draw hr hk_law_draw rfl (da_cons (dv 0) (da_cons (de_int) (da_nil)))) (fun _ _ => rfl))) (dss_one (ds_retR (de_lst (da_cons (de_str) (da_cons (dv 3) (da_cons (dv 3) (da_nil)))))))) (dss_nil)) (dss_cons (ds_if (dt_cmp (od_eq hu) (dv 1) (de_int) (nomark _)) (dss_cons (dset 3 sc_law_sign.nd (de_call F_law_word hr hk_law_word rfl (da_cons (dv 0) (da_cons (de_bin od_add (de_int) (de_call F_law_draw hr hk_law_draw rfl (da_cons (dv 0) (da_cons (de_int) (da_nil))))) (da_nil))))) (dss_one (ds_retR (de_lst (da_cons (de_str) (da_cons (dv 3) (da_cons (dv 3) (da_nil)))))))) (dss_nil)) (dss_cons (ds_if (dt_cmp (od_eq hu) (dv 1) (de_int) (nomark _)) (dss_cons (dset 4 sc_law_sign.nd (de_join (de_str) (de_lc (own := [("k", 8)]) rfl sc_law_sign.nd (di_range1 rfl m_range (da_cons (de_bin od_add (de_int) (de_call F_law_draw hr hk_law_draw rfl (da_cons (dv 0) (da_cons (de_int) (da_nil))))) (da_nil))) (blkOk_by (N := NN_law_sign) (sc := defScope s_law_sign) (by decide +kernel)) (fun _ _ _ _ _ => dgw 8 sc_law_sign.nd (by decide)) (fun _ _ _ _ _ => dts_nil) (fun _ _ _ _ _ => de_ix (de_str) (de_call F_law_draw hr hk_law_draw rfl (da_cons (dv 0) (da_cons (de_int) (da_nil)))) (fun _ _ => rfl))))) (dss_cons (dset 5 sc_law_sign.nd (de_int)) (dss_cons (ds_for PassesOwn.never rfl (di_txt (dv 4)) (dgn 6 sc_law_sign.nd) (dss_one (dset 5 sc_law_sign.nd (de_bin od_add (de_bin od_mul (de_int) (dv 5)) (de_sIdx (de_str) (dv 6)))))) (dss_one (ds_retR (de_lst (da_cons (de_str) (da_cons (dv 5) (da_cons (dv 4) (da_nil)))))))))) (dss_nil)) (dss_cons (ds_if (dt_cmp (od_eq hu) (dv 1) (de_int) (nomark _)) (dss_cons (dset 7 sc_law_sign.nd (de_join (de_str) (de_lc (own := [("k", 8)]) rfl sc_law_sign.nd (di_range1 rfl m_range (da_cons (de_call F_law_draw hr hk_law_draw rfl (da_cons (dv 0) (da_cons (de_int) (da_nil)))) (da_nil))) (blkOk_by (N := NN_law_sign) (sc := defScope s_law_sign) (by decide +kernel)) (fun _ _ _ _ _ => dgw 8 sc_law_sign.nd (by decide)) (fun _ _ _ _ _ => dts_nil) (fun _ _ _ _ _ => de_ix (de_str) (de_call F_law_draw hr hk_law_draw rfl (da_cons (dv 0) (da_cons (de_int) (da_nil)))) (fun _ _ => rfl))))) (dss_one (ds_retR (de_lst (da_cons (de_str) (da_cons (dv 7) (da_cons (de_bin od_add (de_binT od_add (det_repl (dv 7))) (de_str)) (da_nil)))))))) (dss_nil)) (dss_cons (dset 2 sc_law_sign.nd (de_ix (de_str) (de_call F_law_draw hr hk_law_draw rfl (da_cons (dv 0) (da_cons (de_int) (da_nil)))) (fun _ _ => rfl))) (dss_one (ds_retR (de_lst (da_cons (de_str) (da_cons (dv 2) (da_cons (dv 2) (da_nil))))))))))))
abbrev s_law_apart : Stmt := topS 34
abbrev NN_law_apart : List Str := ["before", "after"]
theorem sc_law_apart : FnScope NN_law_apart ["before", "after"] (defScope s_law_apart) := ⟨rfl, rfl, rfl, by decide +kernel, rfl, by decide +kernel, by decide +kernel⟩
noncomputable def B_law_apart : SD := sSeq (sIf (bOr (asB (eBin (gEq false) (eBin gIx (eVar 0) (eC (.int 0))) (eC (.str "symbol")))) (asB (eBin (gEq false) (eBin gIx (eVar 1) (eC (.int 0))) (eC (.str "symbol"))))) (sRetR (eC (.bool true))) (sNil)) (sSeq (sIf (asB (eBin (gEq false) (eBin gIx (eVar 0) (eC (.int 0))) (eC (.str "quoted")))) (sRetR (eBin (gEq true) (eBin gIx (eVar 1) (eC (.int 0))) (eC (.str "quoted")))) (sNil)) (sRetR (eOr (eBin (gEq false) (eBin gIx (eVar 1) (eC (.int 0))) (eC (.str "quoted"))) (eAnd (eBin (gEq false) (eBin gIx (eVar 0) (eC (.int 0))) (eC (.str "number"))) (eBin (gEq false) (eBin gIx (eVar 1) (eC (.int 0))) (eC (.str "word")))))))
theorem d_law_apart {P : Program} {w : World} {K : PySem.W.Frag} {mg : Str → Option Value} {base : Heap} {j : Nat} {cdv : Value} {A : Around} {outer : List PySem.Env} {s : Shared} {H : Hp} {E : XK} {f : Addr} (hr : Room j (A.deeper (envOfC "_law_apart" (defScope s_law_apart) s.heap.objs.size f cdv))) :
    DSs (cxOf CX0 P w K mg base NN_law_apart "_law_apart" (defScope s_law_apart) f cdv A outer s H E).nox (fun _ _ _ _ => False) (defBody s_law_apart) (B_law_apart) := by
  have hu := hr.units
  have hu1 := units65 hr
  exact dss_cons (ds_if (DW.pt (dw_or (dt_cmp (od_eq hu) (de_ix (dv 0) (de_int) (fun _ _ => rfl)) (de_str) (nomark _)) (dw_or1 (dt_cmp (od_eq hu) (de_ix (dv 1) (de_int) (fun _ _ => rfl)) (de_str) (nomark _))))) (dss_one (ds_retR (de_bl))) (dss_nil)) (dss_cons (ds_if (dt_cmp (od_eq hu) (de_ix (dv 0) (de_int) (fun _ _ => rfl)) (de_str) (nomark _)) (dss_one (ds_retR (de_cmp (od_ne hu) (de_ix (dv 1) (de_int) (fun _ _ => rfl)) (de_str) (nomark _)))) (dss_nil)) (dss_one (ds_retR (de_or (de_cmp (od_eq hu) (de_ix (dv 1) (de_int) (fun _ _ => rfl)) (de_str) (nomark _)) (de_one (de_and (de_cmp (od_eq hu) (de_ix (dv 0) (de_int) (fun _ _ => rfl)) (de_str) (nomark _)) (de_one (de_cmp (od_eq hu) (de_ix (dv 1) (de_int) (fun _ _ => rfl)) (de_str) (nomark _)))))))))
abbrev s_law_after : Stmt := topS 35
abbrev NN_law_after : List Str := ["place", "text", "line", "column", "sign"]
theorem sc_law_after : FnScope NN_law_after ["place", "text"] (defScope s_law_after) := ⟨rfl, rfl, rfl, by decide +kernel, rfl, by decide +kernel, by decide +kernel⟩
noncomputable def B_law_after : SD := sSeq (sSet 2 (eBin gIx (eVar 0) (eC (.int 0)))) (sSeq (sSet 3 (eBin gIx (eVar 0) (eC (.int 1)))) (sSeq (sFor (iTxt (eVar 1)) (gNm 4) (sIf (asB (eBin (gEq false) (eVar 4) (eC (.str "\n")))) (sSeq (sSet 2 (eBin gAdd (eVar 2) (eC (.int 1)))) (sSet 3 (eC (.int 1)))) (sSet 3 (eBin gAdd (eVar 3) (eC (.int 1)))))) (sRetR (eLst (aCons (eVar 2) (aCons (eVar 3) (aNil)))))))
theorem d_law_after {P : Program} {w : World} {K : PySem.W.Frag} {mg : Str → Option Value} {base : Heap} {j : Nat} {cdv : Value} {A : Around} {outer : List PySem.Env} {s : Shared} {H : Hp} {E : XK} {f : Addr} (hr : Room j (A.deeper (envOfC "_law_after" (defScope s_law_after) s.heap.objs.size f cdv))) :
    DSs (cxOf CX0 P w K mg base NN_law_after "_law_after" (defScope s_law_after) f cdv A outer s H E).nox (fun _ _ _ _ => False) (defBody s_law_after) (B_law_after) := by
  have hu := hr.units
  have hu1 := units65 hr
  exact dss_cons (dset 2 sc_law_after.nd (de_ix (dv 0) (de_int) (fun _ _ => rfl))) (dss_cons (dset 3 sc_law_after.nd (de_ix (dv 0) (de_int) (fun _ _ => rfl))) (dss_cons (ds_for PassesOwn.never rfl (di_txt (dv 1)) (dgn 4 sc_law_after.nd) (dss_one (ds_if (dt_cmp (od_eq hu) (dv 4) (de_str) (nomark _)) (dss_cons (dset 2 sc_law_after.nd (de_bin od_add (dv 2) (de_int))) (dss_one (dset 3 sc_law_after.nd (de_int)))) (dss_one (dset 3 sc_law_after.nd (de_bin od_add (dv 3) (de_int))))))) (dss_one (ds_retR (de_lst (da_cons (dv 2) (da_cons (dv 3) (da_nil))))))))
abbrev s_law_spoilt : Stmt := topS 36
abbrev NN_law_spoilt : List Str := ["box", "kind"]
theorem sc_law_spoilt : FnScope NN_law_spoilt ["box"] (defScope s_law_spoilt) := ⟨rfl, rfl, rfl, by decide +kernel, rfl, by decide +kernel, by decide +kernel⟩
noncomputable def B_law_spoilt (g_law_draw : FD) (g_law_word : FD) : SD := sSeq (sSet 1 (eCall 2 g_law_draw (aCons (eVar 0) (aCons (eC (.int 4)) (aNil))))) (sSeq (sIf (asB (eBin (gEq false) (eVar 1) (eC (.int 0)))) (sRetR (eLst (aCons (eBin gIx (eC (.str "!$&'-./:<>\x40[]^_~\\")) (eCall 2 g_law_draw (aCons (eVar 0) (aCons (eC (.int 17)) (aNil))))) (aCons (eC (.str "unexpected character")) (aCons (eC (.int 0)) (aNil)))))) (sNil)) (sSeq (sIf (asB (eBin (gEq false) (eVar 1) (eC (.int 1)))) (sRetR (eLst (aCons (eCall 2 g_law_word (aCons (eVar 0) (aCons (eBin gAdd (eC (.int 21)) (eCall 2 g_law_draw (aCons (eVar 0) (aCons (eC (.int 5)) (aNil))))) (aNil)))) (aCons (eC (.str "name too long")) (aCons (eC (.int 20)) (aNil)))))) (sNil)) (sSeq (sIf (asB (eBin (gEq false) (eVar 1) (eC (.int 2)))) (sRetR (eLst (aCons (eBin gMulT (eC (.str "1")) (eBin gAdd (eC (.int 10)) (eCall 2 g_law_draw (aCons (eVar 0) (aCons (eC (.int 5)) (aNil)))))) (aCons (eC (.str "number too long")) (aCons (eC (.int 9)) (aNil)))))) (sNil)) (sRetR (eLst (aCons (eBin gAdd (eC (.str "\"a\"\"")) (eBin gMulT (eC (.str "b")) (eCall 2 g_law_draw (aCons (eVar 0) (aCons (eC (.int 3)) (aNil)))))) (aCons (eC (.str "quoted text without an end")) (aCons (eNeg (eC (.int 1))) (aNil)))))))))
theorem d_law_spoilt {P : Program} {w : World} {K : PySem.W.Frag} {mg : Str → Option Value} {base : Heap} {j : Nat} {g_law_draw : FD} {k_law_draw : Nat} (F_law_draw : FnD P w K mg base k_law_draw "_law_draw" 2 g_law_draw) (hk_law_draw : k_law_draw ≤ j) {g_law_word : FD} {k_law_word : Nat} (F_law_word : FnD P w K mg base k_law_word "_law_word" 2 g_law_word) (hk_law_word : k_law_word ≤ j) {cdv : Value} {A : Around} {outer : List PySem.Env} {s : Shared} {H : Hp} {E : XK} {f : Addr} (hr : Room j (A.deeper (envOfC "_law_spoilt" (defScope s_law_spoilt) s.heap.objs.size f cdv))) :
    DSs (cxOf CX0 P w K mg base NN_law_spoilt "_law_spoilt" (defScope s_law_spoilt) f cdv A outer s H E).nox (fun _ _ _ _ => False) (defBody s_law_spoilt) (B_law_spoilt g_law_draw g_law_word) := by
  have hu := hr.units
  have hu1 := units65 hr
  exact dss_cons (dset 1 sc_law_spoilt.nd (de_call F_law_draw hr hk_law_draw rfl (da_cons (dv 0) (da_cons (de_int) (da_nil))))) (dss_cons (ds_if (dt_cmp (od_eq hu) (dv 1) (de_int) (nomark _)) (dss_one (ds_retR (de_lst (da_cons (de_ix (de_str) (de_call F_law_draw hr hk_law_draw rfl (da_cons (dv 0) (da_cons (de_int) (da_nil)))) (fun _ _ => rfl)) (da_cons (de_str) (da_cons (de_int) (da_nil))))))) (dss_nil)) (dss_cons (ds_if (dt_cmp (od_eq hu) (dv 1) (de_int) (nomark _)) (dss_one (ds_retR (de_lst (da_cons (de_call F_law_word hr hk_law_word rfl (da_cons (dv 0) (da_cons (de_bin od_add (de_int) (de_call F_law_draw hr hk_law_draw rfl (da_cons (dv 0) (da_cons (de_int) (da_nil))))) (da_nil)))) (da_cons (de_str) (da_cons (de_int) (da_nil))))))) (dss_nil)) (dss_cons (ds_if (dt_cmp (od_eq hu) (dv 1) (de_int) (nomark _)) (dss_one (ds_retR (de_lst (da_cons (de_bin od_mulT (de_str) (de_bin od_add (de_int) (de_call F_law_draw hr hk_law_draw rfl (da_cons (dv 0) (da_cons (de_int) (da_nil)))))) (da_cons (de_str) (da_cons (de_int) (da_nil))))))) (dss_nil)) (dss_one (ds_retR (de_lst (da_cons (de_bin od_add (de_str) (de_bin od_mulT (de_str) (de_call F_law_draw hr hk_law_draw rfl (da_cons (dv 0) (da_cons (de_int) (da_nil)))))) (da_cons (de_str) (da_cons (de_neg (de_int)) (da_nil))))))))))
abbrev s_law_actual : Stmt := topS 37
abbrev NN_law_actual : List Str := ["text", "e"]
theorem sc_law_actual : FnScope NN_law_actual ["text"] (defScope s_law_actual) := ⟨rfl, rfl, rfl, by decide +kernel, rfl, by decide +kernel, by decide +kernel⟩
noncomputable def B_law_actual (sub : Str → Bool → Option Bool) (g_split : FD) (g_law_told : Str → Addr → Option Addr → FD) : SD := sTry sub 1 (sRetR (eCallX 1 g_split (aCons (eVar 0) (aNil)))) (fun cn a0 d0 => sRetR (eCall 1 (g_law_told cn a0 d0) (aCons (eVar 1) (aNil))))
theorem d_law_actual {P : Program} {w : World} {K : PySem.W.Frag} {mg : Str → Option Value} {base : Heap} {j : Nat} {hc_PageError : Value} (gc_PageError : mg "PageError" = some hc_PageError) {sub : Str → Bool → Option Bool} (hsub : ∀ cn hb b cls, sub cn hb = some b → mg cn = some cls → PySem.W.exmOne K cls hc_PageError = some b) {g_split : FD} {k_split : Nat} (F_split : FnN P w K mg base k_split "split" 1 g_split) (hk_split : k_split ≤ j) {g_law_told : Str → Addr → Option Addr → FD} {k_law_told : Nat} (F_law_told : ∀ cn hb, sub cn hb = some true → FnK P w K mg base k_law_told "_law_told" 1 cn hb (g_law_told cn)) (hk_law_told : k_law_told ≤ j) {cdv : Value} {A : Around} {outer : List PySem.Env} {s : Shared} {H : Hp} {E : XK} {f : Addr} (hr : Room j (A.deeper (envOfC "_law_actual" (defScope s_law_actual) s.heap.objs.size f cdv))) :
    DSs (cxOf CX0 P w K mg base NN_law_actual "_law_actual" (defScope s_law_actual) f cdv A outer s H E).nox (fun _ _ _ _ => False) (defBody s_law_actual) (B_law_actual sub g_split g_law_told) := by
  have hu := hr.units
  have hu1 := units65 hr
  exact dss_one (ds_try_as rfl rfl sc_law_actual.nd rfl rfl ⟨rfl, by decide, .inl gc_PageError⟩ (fun _ _ z => by obtain ⟨_, _, _, _, _, _, _, _, _, _, _, _, _, _, _, _, z⟩ := z; exact z.elim) hsub (fun W pn xe tk po => dss_one (ds_retR (de_callN F_split tk hr hk_split rfl (da_cons (dv 0) (da_nil))))) (fun cn cls a0 oe d0 pn hs1 hm1 hz hf => by have hx := HX.of_suite (X := (cxOf CX0 P w K mg base NN_law_actual "_law_actual" (defScope s_law_actual) f cdv A outer s H E).nox) hm1 hz hf (pn := pn) (a0 := a0); have hr := roomH_mark (v := some (.ref a0)) hr; exact dss_one (ds_retR (de_callK hx (F_law_told cn _ hs1) hr hk_law_told rfl (da_cons (dv 1) (da_nil))))))
abbrev s_law : Stmt := topS 38
abbrev NN_law : List Str := ["script", "box", "text", "place", "due", "last", "k", "gap", "actual", "sign", "bad", "ahead"]
theorem sc_law : FnScope NN_law ["script"] (defScope s_law) := ⟨rfl, rfl, rfl, by decide +kernel, rfl, by decide +kernel, by decide +kernel⟩
noncomputable def B_law (g_law_after : FD) (g_law_actual : FD) (g_law_digits : FD) (g_law_draw : FD) (g_law_sign : FD) (g_law_spoilt : FD) (g_law_same : FD) (g_law_apart : FD) : SD := sSeq (sSet 1 (eLstO (aCons (eCall 3 g_law_digits (aCons (eVar 0) (aCons (eC (.int 0)) (aCons (eC (.int 40)) (aNil))))) (aCons (eC (.int 0)) (aNil))))) (sSeq (sSet 2 (eC (.str ""))) (sSeq (sSet 3 (eLst (aCons (eC (.int 1)) (aCons (eC (.int 1)) (aNil))))) (sSeq (sSet 4 (eLstO (aNil))) (sSeq (sSet 5 (eLst (aCons (eC (.str "symbol")) (aNil)))) (sSeq (sFor (iRgA (aCons (eCall 2 g_law_draw (aCons (eVar 1) (aCons (eC (.int 26)) (aNil)))) (aNil))) (gNm 6) (sSeq (sSet 9 (eCall 1 g_law_sign (aCons (eVar 1) (aNil)))) (sSeq (sSet 7 (eBin gIx (eLst (aCons (eC (.str "")) (aCons (eC (.str " ")) (aCons (eC (.str "  ")) (aCons (eC (.str "\n")) (aCons (eC (.str " \n ")) (aNil))))))) (eCall 2 g_law_draw (aCons (eVar 1) (aCons (eC (.int 5)) (aNil)))))) (sSeq (sIf (bAnd (asB (eBin (gEq false) (eVar 7) (eC (.str "")))) (bNot (bTru (eCall 2 g_law_apart (aCons (eVar 5) (aCons (eVar 9) (aNil))))))) (sSet 7 (eC (.str " "))) (sNil)) (sSeq (sSet 3 (eCall 2 g_law_after (aCons (eVar 3) (aCons (eVar 7) (aNil))))) (sSeq (sExpr (eMth gApp (eVar 4) (aCons (eTup (aCons (eBin gIx (eVar 9) (eC (.int 0))) (aCons (eBin gIx (eVar 9) (eC (.int 1))) (aCons (eBin gIx (eVar 3) (eC (.int 0))) (aCons (eBin gIx (eVar 3) (eC (.int 1))) (aNil)))))) (aNil)))) (sSeq (sSet 3 (eCall 2 g_law_after (aCons (eVar 3) (aCons (eBin gIx (eVar 9) (eC (.int 2))) (aNil))))) (sSeq (sSet 2 (eBin gAdd (eBin gAdd (eVar 2) (eVar 7)) (eBin gIx (eVar 9) (eC (.int 2))))) (sSet 5 (eVar 9)))))))))) (sSeq (sIf (asB (eBin (gEq false) (eCall 2 g_law_draw (aCons (eVar 1) (aCons (eC (.int 2)) (aNil)))) (eC (.int 0)))) (sSeq (sSet 7 (eBin gIx (eLst (aCons (eC (.str " ")) (aCons (eC (.str "\n")) (aNil)))) (eCall 2 g_law_draw (aCons (eVar 1) (aCons (eC (.int 2)) (aNil)))))) (sSeq (sSet 10 (eCall 1 g_law_spoilt (aCons (eVar 1) (aNil)))) (sSeq (sSet 3 (eCall 2 g_law_after (aCons (eVar 3) (aCons (eVar 7) (aNil))))) (sSeq (sSet 11 (eBin gIx (eVar 10) (eC (.int 2)))) (sSeq (sIf (asB (eBin gLt (eVar 11) (eC (.int 0)))) (sSet 11 (eB gLen (aCons (eBin gIx (eVar 10) (eC (.int 0))) (aNil)))) (sNil)) (sSeq (sSet 3 (eCall 2 g_law_after (aCons (eVar 3) (aCons (eSl (eBin gIx (eVar 10) (eC (.int 0))) (oNone) (oSome (eVar 11))) (aNil))))) (sRetR (eCall 2 g_law_same (aCons (eCall 1 g_law_actual (aCons (eBin gAdd (eBin gAdd (eVar 2) (eVar 7)) (eBin gIx (eVar 10) (eC (.int 0)))) (aNil))) (aCons (eTup (aCons (eC (.str "fault")) (aCons (eBin gIx (eVar 3) (eC (.int 0))) (aCons (eBin gIx (eVar 3) (eC (.int 1))) (aCons (eBin gIx (eVar 10) (eC (.int 1))) (aNil)))))) (aNil))))))))))) (sNil)) (sSeq (sSet 7 (eBin gIx (eLst (aCons (eC (.str "")) (aCons (eC (.str " ")) (aCons (eC (.str "\n\n")) (aNil))))) (eCall 2 g_law_draw (aCons (eVar 1) (aCons (eC (.int 3)) (aNil)))))) (sSeq (sSet 3 (eCall 2 g_law_after (aCons (eVar 3) (aCons (eVar 7) (aNil))))) (sSeq (sExpr (eMth gApp (eVar 4) (aCons (eTup (aCons (eC (.str "end")) (aCons (eC (.str "")) (aCons (eBin gIx (eVar 3) (eC (.int 0))) (aCons (eBin gIx (eVar 3) (eC (.int 1))) (aNil)))))) (aNil)))) (sSeq (sSet 8 (eCall 1 g_law_actual (aCons (eBin gAdd (eVar 2) (eVar 7)) (aNil)))) (sRetR (eAnd (eIsi "list" (eVar 8)) (eCall 2 g_law_same (aCons (eB gToTup (aCons (eVar 8) (aNil))) (aCons (eB gToTup (aCons (eVar 4) (aNil))) (aNil))))))))))))))))
theorem d_law {P : Program} {w : World} {K : PySem.W.Frag} {mg : Str → Option Value} {base : Heap} {j : Nat} {g_law_after : FD} {k_law_after : Nat} (F_law_after : FnD P w K mg base k_law_after "_law_after" 2 g_law_after) (hk_law_after : k_law_after ≤ j) {g_law_actual : FD} {k_law_actual : Nat} (F_law_actual : FnD P w K mg base k_law_actual "_law_actual" 1 g_law_actual) (hk_law_actual : k_law_actual ≤ j) {g_law_digits : FD} {k_law_digits : Nat} (F_law_digits : FnD P w K mg base k_law_digits "_law_digits" 3 g_law_digits) (hk_law_digits : k_law_digits ≤ j) {g_law_draw : FD} {k_law_draw : Nat} (F_law_draw : FnD P w K mg base k_law_draw "_law_draw" 2 g_law_draw) (hk_law_draw : k_law_draw ≤ j) {g_law_sign : FD} {k_law_sign : Nat} (F_law_sign : FnD P w K mg base k_law_sign "_law_sign" 1 g_law_sign) (hk_law_sign : k_law_sign ≤ j) {g_law_spoilt : FD} {k_law_spoilt : Nat} (F_law_spoilt : FnD P w K mg base k_law_spoilt "_law_spoilt" 1 g_law_spoilt) (hk_law_spoilt : k_law_spoilt ≤ j) {g_law_same : FD} {k_law_same : Nat} (F_law_same : FnD P w K mg base k_law_same "_law_same" 2 g_law_same) (hk_law_same : k_law_same ≤ j) {g_law_apart : FD} {k_law_apart : Nat} (F_law_apart : FnD P w K mg base k_law_apart "_law_apart" 2 g_law_apart) (hk_law_apart : k_law_apart ≤ j) (m_isinstance : mg "isinstance" = none) (m_len : mg "len" = none) (m_list : mg "list" = none) (m_range : mg "range" = none) (m_tuple : mg "tuple" = none) {cdv : Value} {A : Around} {outer : List PySem.Env} {s : Shared} {H : Hp} {E : XK} {f : Addr} (hr : Room j (A.deeper (envOfC "law" (defScope s_law) s.heap.objs.size f cdv))) :
    DSs (cxOf CX0 P w K mg base NN_law "law" (defScope s_law) f cdv A outer s H E).nox (fun _ _ _ _ => False) (defBody s_law) (B_law g_law_after g_law_actual g_law_digits g_law_draw g_law_sign g_law_spoilt g_law_same g_law_apart) := by
  have hu := hr.units
  have hu1 := units65 hr
  exact dss_cons (dset 1 sc_law.nd (de_lstO (da_cons (de_call F_law_digits hr hk_law_digits rfl (da_cons (dv 0) (da_cons (de_int) (da_cons (de_int) (da_nil))))) (da_cons (de_int) (da_nil))))) (dss_cons (dset 2 sc_law.nd (de_str)) (dss_cons (dset 3 sc_law.nd (de_lst (da_cons (de_int) (da_cons (de_int) (da_nil))))) (dss_cons (dset 4 sc_law.nd (de_lstO (da_nil))) (dss_cons (dset 5 sc_law.nd (de_lst (da_cons (de_str) (da_nil)))) (dss_cons (ds_for PassesOwn.never rfl (di_range1 rfl m_range (da_cons (de_call F_law_draw hr hk_law_draw rfl (da_cons (dv 1) (da_cons (de_int) (da_nil)))) (da_nil))) (dgn 6 sc_law.nd) (dss_cons (dset 9 sc_law.nd (de_call F_law_sign hr hk_law_sign rfl (da_cons (dv 1) (da_nil)))) (dss_cons (dset 7 sc_law.nd (de_ix (de_lst (da_cons (de_str) (da_cons (de_str) (da_cons (de_str) (da_cons (de_str) (da_cons (de_str) (da_nil))))))) (de_call F_law_draw hr hk_law_draw rfl (da_cons (dv 1) (da_cons (de_int) (da_nil)))) (fun _ _ => rfl))) (dss_cons (ds_if (DW.pt (dw_and (dt_cmp (od_eq hu) (dv 7) (de_str) (nomark _)) (dw_and1 (dt_not (dt_truth (de_call F_law_apart hr hk_law_apart rfl (da_cons (dv 5) (da_cons (dv 9) (da_nil))))))))) (dss_one (dset 7 sc_law.nd (de_str))) (dss_nil)) (dss_cons (dset 3 sc_law.nd (de_call F_law_after hr hk_law_after rfl (da_cons (dv 3) (da_cons (dv 7) (da_nil))))) (dss_cons (ds_expr (de_mth md_append PySem.F.slot_list_append PySem.F.type_list_append (dv 4) (da_cons (de_tup (da_cons (de_ix (dv 9) (de_int) (fun _ _ => rfl)) (da_cons (de_ix (dv 9) (de_int) (fun _ _ => rfl)) (da_cons (de_ix (dv 3) (de_int) (fun _ _ => rfl)) (da_cons (de_ix (dv 3) (de_int) (fun _ _ => rfl)) (da_nil)))))) (da_nil)))) (dss_cons (dset 3 sc_law.nd (de_call F_law_after hr hk_law_after rfl (da_cons (dv 3) (da_cons (de_ix (dv 9) (de_int) (fun _ _ => rfl)) (da_nil))))) (dss_cons (dset 2 sc_law.nd (de_bin od_add (de_bin od_add (dv 2) (dv 7)) (de_ix (dv 9) (de_int) (fun _ _ => rfl)))) (dss_one (dset 5 sc_law.nd (dv 9))))))))))) (dss_cons (ds_if (dt_cmp (od_eq hu) (de_call F_law_draw hr hk_law_draw rfl (da_cons (dv 1) (da_cons (de_int) (da_nil)))) (de_int) (nomark _)) (dss_cons (dset 7 sc_law.nd (de_ix (de_lst (da_cons (de_str) (da_cons (de_str) (da_nil)))) (de_call F_law_draw hr hk_law_draw rfl (da_cons (dv 1) (da_cons (de_int) (da_nil)))) (fun _ _ => rfl))) (dss_cons (dset 10 sc_law.nd (de_call F_law_spoilt hr hk_law_spoilt rfl (da_cons (dv 1) (da_nil)))) (dss_cons (dset 3 sc_law.nd (de_call F_law_after hr hk_law_after rfl (da_cons (dv 3) (da_cons (dv 7) (da_nil))))) (dss_cons (dset 11 sc_law.nd (de_ix (dv 10) (de_int) (fun _ _ => rfl))) (dss_cons (ds_if (dt_cmp od_lt (dv 11) (de_int) (nomark _)) (dss_one (dset 11 sc_law.nd (de_callB cd_len rfl m_len boot_len (da_cons (de_ix (dv 10) (de_int) (fun _ _ => rfl)) (da_nil))))) (dss_nil)) (dss_cons (dset 3 sc_law.nd (de_call F_law_after hr hk_law_after rfl (da_cons (dv 3) (da_cons (de_sl (de_ix (dv 10) (de_int) (fun _ _ => rfl)) (do_none) (do_some (dv 11))) (da_nil))))) (dss_one (ds_retR (de_call F_law_same hr hk_law_same rfl (da_cons (de_call F_law_actual hr hk_law_actual rfl (da_cons (de_bin od_add (de_bin od_add (dv 2) (dv 7)) (de_ix (dv 10) (de_int) (fun _ _ => rfl))) (da_nil))) (da_cons (de_tup (da_cons (de_str) (da_cons (de_ix (dv 3) (de_int) (fun _ _ => rfl)) (da_cons (de_ix (dv 3) (de_int) (fun _ _ => rfl)) (da_cons (de_ix (dv 10) (de_int) (fun _ _ => rfl)) (da_nil)))))) (da_nil)))))))))))) (dss_nil)) (dss_cons (dset 7 sc_law.nd (de_ix (de_lst (da_cons (de_str) (da_cons (de_str) (da_cons (de_str) (da_nil))))) (de_call F_law_draw hr hk_law_draw rfl (da_cons (dv 1) (da_cons (de_int) (da_nil)))) (fun _ _ => rfl))) (dss_cons (dset 3 sc_law.nd (de_call F_law_after hr hk_law_after rfl (da_cons (dv 3) (da_cons (dv 7) (da_nil))))) (dss_cons (ds_expr (de_mth md_append PySem.F.slot_list_append PySem.F.type_list_append (dv 4) (da_cons (de_tup (da_cons (de_str) (da_cons (de_str) (da_cons (de_ix (dv 3) (de_int) (fun _ _ => rfl)) (da_cons (de_ix (dv 3) (de_int) (fun _ _ => rfl)) (da_nil)))))) (da_nil)))) (dss_cons (dset 8 sc_law.nd (de_call F_law_actual hr hk_law_actual rfl (da_cons (de_bin od_add (dv 2) (dv 7)) (da_nil)))) (dss_one (ds_retR (de_and (de_isi rfl m_isinstance rfl m_list (by decide +kernel) (dv 8)) (de_one (de_call F_law_same hr hk_law_same rfl (da_cons (de_callT cd_tuple rfl m_tuple (by decide +kernel) (da_cons (dv 8) (da_nil))) (da_cons (de_callT cd_tuple rfl m_tuple (by decide +kernel) (da_cons (dv 4) (da_nil))) (da_nil))))))))))))))))))
end My
namespace My
open PySem PySem.Spec PyProof.Rows L2 DL
def ancs : Str → List Str := fun cn => if cn = "Fault" then ["Fault", "PageError", "ValueError", "Exception", "BaseException"] else []
def rC (cn C : Str) : Bool := decide (C ∈ ancs cn)
noncomputable def G_law_after : FD := gB NN_law_after (B_law_after)
noncomputable def G_find_positions : FD := gB NN_find_positions (B_find_positions)
noncomputable def G_run_end : FD := gB NN_run_end (B_run_end)
noncomputable def G_quoted_end : FD := gB NN_quoted_end (B_quoted_end)
noncomputable def G_sign_at : FD := gB NN_sign_at (B_sign_at G_run_end G_quoted_end)
noncomputable def G_split : FD := gB NN_split (B_split G_find_positions G_sign_at)
noncomputable def G_law_only (cn : Str) : Addr → Option Addr → FD := fun a0 d0 => gB NN_law_only (B_law_only a0 d0 (rC cn "BadReading") (rC cn "BadRegion") (rC cn "TooLarge") (rC cn "Fault") (rC cn "TooMany") (rC cn "OutsideImage") (rC cn "BadNumbers") (rC cn "BadWords") (rC cn "ValueError"))
noncomputable def G_law_told (cn : Str) : Addr → Option Addr → FD := fun a0 d0 => gB NN_law_told (B_law_told a0 d0 (G_law_only cn))
def sub_law_actual : Str → Bool → Option Bool := fun cn hb => if cn = "Fault" ∧ hb = true then some true else none
noncomputable def G_law_actual : FD := gB NN_law_actual (B_law_actual sub_law_actual G_split G_law_told)
noncomputable def G_law_cell : FD := gB NN_law_cell (B_law_cell)
noncomputable def G_law_digits : FD := gB NN_law_digits (B_law_digits G_law_cell)
noncomputable def G_law_draw : FD := gB NN_law_draw (B_law_draw)
noncomputable def G_law_word : FD := gB NN_law_word (B_law_word G_law_draw)
noncomputable def G_law_sign : FD := gB NN_law_sign (B_law_sign G_law_draw G_law_word)
noncomputable def G_law_spoilt : FD := gB NN_law_spoilt (B_law_spoilt G_law_draw G_law_word)
noncomputable def G_law_is_integer : FD := gB NN_law_is_integer (B_law_is_integer)
noncomputable def G_law_same : Nat → FD
  | 0 => fun _ _ => .st
  | n + 1 => gB NN_law_same (B_law_same G_law_is_integer (G_law_same n))
noncomputable def G_law_apart : FD := gB NN_law_apart (B_law_apart)
noncomputable def G_law : FD := gB NN_law (B_law G_law_after G_law_actual G_law_digits G_law_draw G_law_sign G_law_spoilt (G_law_same 4) G_law_apart)
theorem rc_Fault_BadReading : rC "Fault" "BadReading" = false := by decide +kernel
theorem rc_Fault_BadRegion : rC "Fault" "BadRegion" = false := by decide +kernel
theorem rc_Fault_TooLarge : rC "Fault" "TooLarge" = false := by decide +kernel
theorem rc_Fault_Fault : rC "Fault" "Fault" = true := by decide +kernel
theorem rc_Fault_TooMany : rC "Fault" "TooMany" = false := by decide +kernel
theorem rc_Fault_OutsideImage : rC "Fault" "OutsideImage" = false := by decide +kernel
theorem rc_Fault_BadNumbers : rC "Fault" "BadNumbers" = false := by decide +kernel
theorem rc_Fault_BadWords : rC "Fault" "BadWords" = false := by decide +kernel
theorem rc_Fault_ValueError : rC "Fault" "ValueError" = true := by decide +kernel
def dd_law_after : He.DefD := ⟨("_law_after", none), "_law_after", "_law_after", defArgs s_law_after, defBody s_law_after, defScope s_law_after, [], []⟩
theorem bb_law_after : BindsAs "_law_after" s_law_after ["place", "text"] := fun _ _ _ _ _ _ us hl => match us, hl with | [_, _], _ => rfl
def dd_find_positions : He.DefD := ⟨("find_positions", none), "find_positions", "find_positions", defArgs s_find_positions, defBody s_find_positions, defScope s_find_positions, [], []⟩
theorem bb_find_positions : BindsAs "find_positions" s_find_positions ["text"] := fun _ _ _ _ _ _ us hl => match us, hl with | [_], _ => rfl
def dd_run_end : He.DefD := ⟨("run_end", none), "run_end", "run_end", defArgs s_run_end, defBody s_run_end, defScope s_run_end, [], []⟩
theorem bb_run_end : BindsAs "run_end" s_run_end ["text", "at", "characters", "longest", "positions", "reason"] := fun _ _ _ _ _ _ us hl => match us, hl with | [_, _, _, _, _, _], _ => rfl
def dd_quoted_end : He.DefD := ⟨("quoted_end", none), "quoted_end", "quoted_end", defArgs s_quoted_end, defBody s_quoted_end, defScope s_quoted_end, [], []⟩
theorem bb_quoted_end : BindsAs "quoted_end" s_quoted_end ["text", "at", "positions"] := fun _ _ _ _ _ _ us hl => match us, hl with | [_, _, _], _ => rfl
def dd_sign_at : He.DefD := ⟨("sign_at", none), "sign_at", "sign_at", defArgs s_sign_at, defBody s_sign_at, defScope s_sign_at, [], []⟩
theorem bb_sign_at : BindsAs "sign_at" s_sign_at ["text", "at", "positions"] := fun _ _ _ _ _ _ us hl => match us, hl with | [_, _, _], _ => rfl
def dd_split : He.DefD := ⟨("split", none), "split", "split", defArgs s_split, defBody s_split, defScope s_split, [], []⟩
theorem bb_split : BindsAs "split" s_split ["text"] := fun _ _ _ _ _ _ us hl => match us, hl with | [_], _ => rfl
def dd_law_only : He.DefD := ⟨("_law_only", none), "_law_only", "_law_only", defArgs s_law_only, defBody s_law_only, defScope s_law_only, [], []⟩
theorem bb_law_only : BindsAs "_law_only" s_law_only ["e", "kinds"] := fun _ _ _ _ _ _ us hl => match us, hl with | [_, _], _ => rfl
def dd_law_told : He.DefD := ⟨("_law_told", none), "_law_told", "_law_told", defArgs s_law_told, defBody s_law_told, defScope s_law_told, [], []⟩
theorem bb_law_told : BindsAs "_law_told" s_law_told ["e"] := fun _ _ _ _ _ _ us hl => match us, hl with | [_], _ => rfl
def dd_law_actual : He.DefD := ⟨("_law_actual", none), "_law_actual", "_law_actual", defArgs s_law_actual, defBody s_law_actual, defScope s_law_actual, [], []⟩
theorem bb_law_actual : BindsAs "_law_actual" s_law_actual ["text"] := fun _ _ _ _ _ _ us hl => match us, hl with | [_], _ => rfl
def dd_law_cell : He.DefD := ⟨("_law_cell", none), "_law_cell", "_law_cell", defArgs s_law_cell, defBody s_law_cell, defScope s_law_cell, [], []⟩
theorem bb_law_cell : BindsAs "_law_cell" s_law_cell ["script", "k"] := fun _ _ _ _ _ _ us hl => match us, hl with | [_, _], _ => rfl
def dd_law_digits : He.DefD := ⟨("_law_digits", none), "_law_digits", "_law_digits", defArgs s_law_digits, defBody s_law_digits, defScope s_law_digits, [], []⟩
theorem bb_law_digits : BindsAs "_law_digits" s_law_digits ["script", "first", "last"] := fun _ _ _ _ _ _ us hl => match us, hl with | [_, _, _], _ => rfl
def dd_law_draw : He.DefD := ⟨("_law_draw", none), "_law_draw", "_law_draw", defArgs s_law_draw, defBody s_law_draw, defScope s_law_draw, [], []⟩
theorem bb_law_draw : BindsAs "_law_draw" s_law_draw ["box", "many"] := fun _ _ _ _ _ _ us hl => match us, hl with | [_, _], _ => rfl
def dd_law_word : He.DefD := ⟨("_law_word", none), "_law_word", "_law_word", defArgs s_law_word, defBody s_law_word, defScope s_law_word, [], []⟩
theorem bb_law_word : BindsAs "_law_word" s_law_word ["box", "size"] := fun _ _ _ _ _ _ us hl => match us, hl with | [_, _], _ => rfl
def dd_law_sign : He.DefD := ⟨("_law_sign", none), "_law_sign", "_law_sign", defArgs s_law_sign, defBody s_law_sign, defScope s_law_sign, [], []⟩
theorem bb_law_sign : BindsAs "_law_sign" s_law_sign ["box"] := fun _ _ _ _ _ _ us hl => match us, hl with | [_], _ => rfl
def dd_law_spoilt : He.DefD := ⟨("_law_spoilt", none), "_law_spoilt", "_law_spoilt", defArgs s_law_spoilt, defBody s_law_spoilt, defScope s_law_spoilt, [], []⟩
theorem bb_law_spoilt : BindsAs "_law_spoilt" s_law_spoilt ["box"] := fun _ _ _ _ _ _ us hl => match us, hl with | [_], _ => rfl
def dd_law_is_integer : He.DefD := ⟨("_law_is_integer", none), "_law_is_integer", "_law_is_integer", defArgs s_law_is_integer, defBody s_law_is_integer, defScope s_law_is_integer, [], []⟩
theorem bb_law_is_integer : BindsAs "_law_is_integer" s_law_is_integer ["actual"] := fun _ _ _ _ _ _ us hl => match us, hl with | [_], _ => rfl
def dd_law_same : He.DefD := ⟨("_law_same", none), "_law_same", "_law_same", defArgs s_law_same, defBody s_law_same, defScope s_law_same, [], []⟩
theorem bb_law_same : BindsAs "_law_same" s_law_same ["actual", "due"] := fun _ _ _ _ _ _ us hl => match us, hl with | [_, _], _ => rfl
def dd_law_apart : He.DefD := ⟨("_law_apart", none), "_law_apart", "_law_apart", defArgs s_law_apart, defBody s_law_apart, defScope s_law_apart, [], []⟩
theorem bb_law_apart : BindsAs "_law_apart" s_law_apart ["before", "after"] := fun _ _ _ _ _ _ us hl => match us, hl with | [_, _], _ => rfl
def dd_law : He.DefD := ⟨("law", none), "law", "law", defArgs s_law, defBody s_law, defScope s_law, [], []⟩
theorem bb_law : BindsAs "law" s_law ["script"] := fun _ _ _ _ _ _ us hl => match us, hl with | [_], _ => rfl
def dd_init_Fault : He.DefD := ⟨("Fault", some "__init__"), "__init__", "Fault.__init__", defArgs m_Fault, defBody m_Fault, defScope m_Fault, [], []⟩
def fnsD : List He.DefD := [dd_law_after, dd_find_positions, dd_run_end, dd_quoted_end, dd_sign_at, dd_split, dd_law_only, dd_law_told, dd_law_actual, dd_law_cell, dd_law_digits, dd_law_draw, dd_law_word, dd_law_sign, dd_law_spoilt, dd_law_is_integer, dd_law_same, dd_law_apart, dd_law, dd_init_Fault]
def faD0 : List He.Fa := [.glo "_law_after", .glo "find_positions", .glo "run_end", .glo "quoted_end", .glo "sign_at", .glo "split", .glo "_law_only", .glo "_law_told", .glo "_law_actual", .glo "_law_cell", .glo "_law_digits", .glo "_law_draw", .glo "_law_word", .glo "_law_sign", .glo "_law_spoilt", .glo "_law_is_integer", .glo "_law_same", .glo "_law_apart", .glo "law", .glo "BadReading", .glo "BadRegion", .glo "TooLarge", .glo "Fault", .glo "TooMany", .glo "OutsideImage", .glo "BadNumbers", .glo "BadWords", .glo "PageError", .free "len", .free "int"]
def faD1 : List He.Fa := [.free "isinstance", .free "range", .free "bool", .free "str", .free "tuple", .free "list", .free "ValueError", .str "DIGITS" "0123456789", .str "IN_WORDS" "_0123456789abcdefghijklmnopqrstuvwxyzABCDEFGHIJKLMNOPQRSTUVWXYZ", .str "LETTERS" "abcdefghijklmnopqrstuvwxyzABCDEFGHIJKLMNOPQRSTUVWXYZ", .int "LONGEST_NUMBER" 9, .int "LONGEST_WORD" 20, .str "SYMBOLS" ",;(){}=|*+?", .exm "Fault" "PageError" true]
def faD : List He.Fa := faD0 ++ faD1
def moreD (K : PySem.W.Frag) : Bool := excB K (He.ga K "Fault") && (kitB1 K (.ref (He.ga K "Fault")) (.ref (He.ga K "BadReading")) false && (kitB1 K (.ref (He.ga K "Fault")) (.ref (He.ga K "BadRegion")) false && (kitB1 K (.ref (He.ga K "Fault")) (.ref (He.ga K "TooLarge")) false && (kitB1 K (.ref (He.ga K "Fault")) (.ref (He.ga K "Fault")) true && (kitB1 K (.ref (He.ga K "Fault")) (.ref (He.ga K "TooMany")) false && (kitB1 K (.ref (He.ga K "Fault")) (.ref (He.ga K "OutsideImage")) false && (kitB1 K (.ref (He.ga K "Fault")) (.ref (He.ga K "BadNumbers")) false && (kitB1 K (.ref (He.ga K "Fault")) (.ref (He.ga K "BadWords")) false && (kitB1 K (.ref (He.ga K "Fault")) (.type "ValueError") true && (kitB1 K (.ref (He.ga K "Fault")) (.ref (He.ga K "PageError")) true && (xfB K (He.ga K "Fault") && (He.eqO (PySem.W.findIn K (.ref (He.ga K "Fault")) "reason") (some none) && (He.eqO (PySem.W.findIn K (.ref (He.ga K "Fault")) "column") (some none) && (He.eqO (PySem.W.findIn K (.ref (He.ga K "Fault")) "line") (some none) && (oexB K (He.ga K "Fault") && (He.eqO (PySem.W.findIn K (.ref (He.ga K "Fault")) "__init__") (some (some (.ref (He.ma K (He.ga K "Fault") "__init__")))) && (decide (PySem.W.typeIn K (.ref (He.ma K (He.ga K "Fault") "__init__")) = some (.type "function")) && (He.eqO (PySem.W.findIn K (.ref (He.ga K "Fault")) "line") (some none) && (He.eqO (PySem.W.findIn K (.ref (He.ga K "Fault")) "column") (some none) && (He.eqO (PySem.W.findIn K (.ref (He.ga K "Fault")) "reason") (some none) && (PySem.W.readsIn K (He.ga K "PageError") (.type "type") && (cinB K (He.ga K "PageError") && (He.eqO (PySem.W.specialIn K (.ref (He.ga K "PageError")) "__getattribute__") (some (some (.builtin "type.__getattribute__"))))))))))))))))))))))))))
theorem all_fns {P : Program} {w : World} {K : PySem.W.Frag} {h base : Heap} {mg : Str → Option Value} (X : K.In h) (G : h.Ns mainGlobals mg) (c : He.SaysD faD fnsD K) (cm : moreD K = true) :
    ∃ (f : Addr) (fd : FuncData), mg "law" = some (.ref f) ∧ FunS K "law" s_law f fd ∧ FnOk P w K mg base CX0 7 f fd ["script"] (spOf K mg 1 (fun ds S => noEx (G_law ds S))) := by
  obtain ⟨fd_law_after, U_law_after⟩ := c.def_ 0 (d := dd_law_after) rfl
  have U_law_after : FunS K "_law_after" s_law_after (He.ga K "_law_after") fd_law_after := U_law_after
  obtain ⟨fd_find_positions, U_find_positions⟩ := c.def_ 1 (d := dd_find_positions) rfl
  have U_find_positions : FunS K "find_positions" s_find_positions (He.ga K "find_positions") fd_find_positions := U_find_positions
  obtain ⟨fd_run_end, U_run_end⟩ := c.def_ 2 (d := dd_run_end) rfl
  have U_run_end : FunS K "run_end" s_run_end (He.ga K "run_end") fd_run_end := U_run_end
  obtain ⟨fd_quoted_end, U_quoted_end⟩ := c.def_ 3 (d := dd_quoted_end) rfl
  have U_quoted_end : FunS K "quoted_end" s_quoted_end (He.ga K "quoted_end") fd_quoted_end := U_quoted_end
  obtain ⟨fd_sign_at, U_sign_at⟩ := c.def_ 4 (d := dd_sign_at) rfl
  have U_sign_at : FunS K "sign_at" s_sign_at (He.ga K "sign_at") fd_sign_at := U_sign_at
  obtain ⟨fd_split, U_split⟩ := c.def_ 5 (d := dd_split) rfl
  have U_split : FunS K "split" s_split (He.ga K "split") fd_split := U_split
  obtain ⟨fd_law_only, U_law_only⟩ := c.def_ 6 (d := dd_law_only) rfl
  have U_law_only : FunS K "_law_only" s_law_only (He.ga K "_law_only") fd_law_only := U_law_only
  obtain ⟨fd_law_told, U_law_told⟩ := c.def_ 7 (d := dd_law_told) rfl
  have U_law_told : FunS K "_law_told" s_law_told (He.ga K "_law_told") fd_law_told := U_law_told
  obtain ⟨fd_law_actual, U_law_actual⟩ := c.def_ 8 (d := dd_law_actual) rfl
  have U_law_actual : FunS K "_law_actual" s_law_actual (He.ga K "_law_actual") fd_law_actual := U_law_actual
  obtain ⟨fd_law_cell, U_law_cell⟩ := c.def_ 9 (d := dd_law_cell) rfl
  have U_law_cell : FunS K "_law_cell" s_law_cell (He.ga K "_law_cell") fd_law_cell := U_law_cell
  obtain ⟨fd_law_digits, U_law_digits⟩ := c.def_ 10 (d := dd_law_digits) rfl
  have U_law_digits : FunS K "_law_digits" s_law_digits (He.ga K "_law_digits") fd_law_digits := U_law_digits
  obtain ⟨fd_law_draw, U_law_draw⟩ := c.def_ 11 (d := dd_law_draw) rfl
  have U_law_draw : FunS K "_law_draw" s_law_draw (He.ga K "_law_draw") fd_law_draw := U_law_draw
  obtain ⟨fd_law_word, U_law_word⟩ := c.def_ 12 (d := dd_law_word) rfl
  have U_law_word : FunS K "_law_word" s_law_word (He.ga K "_law_word") fd_law_word := U_law_word
  obtain ⟨fd_law_sign, U_law_sign⟩ := c.def_ 13 (d := dd_law_sign) rfl
  have U_law_sign : FunS K "_law_sign" s_law_sign (He.ga K "_law_sign") fd_law_sign := U_law_sign
  obtain ⟨fd_law_spoilt, U_law_spoilt⟩ := c.def_ 14 (d := dd_law_spoilt) rfl
  have U_law_spoilt : FunS K "_law_spoilt" s_law_spoilt (He.ga K "_law_spoilt") fd_law_spoilt := U_law_spoilt
  obtain ⟨fd_law_is_integer, U_law_is_integer⟩ := c.def_ 15 (d := dd_law_is_integer) rfl
  have U_law_is_integer : FunS K "_law_is_integer" s_law_is_integer (He.ga K "_law_is_integer") fd_law_is_integer := U_law_is_integer
  obtain ⟨fd_law_same, U_law_same⟩ := c.def_ 16 (d := dd_law_same) rfl
  have U_law_same : FunS K "_law_same" s_law_same (He.ga K "_law_same") fd_law_same := U_law_same
  obtain ⟨fd_law_apart, U_law_apart⟩ := c.def_ 17 (d := dd_law_apart) rfl
  have U_law_apart : FunS K "_law_apart" s_law_apart (He.ga K "_law_apart") fd_law_apart := U_law_apart
  obtain ⟨fd_law, U_law⟩ := c.def_ 18 (d := dd_law) rfl
  have U_law : FunS K "law" s_law (He.ga K "law") fd_law := U_law
  have e_law_after : mg "_law_after" = some (.ref (He.ga K "_law_after")) := He.glo_ok X G (c.fact 0 (f := .glo "_law_after") rfl)
  have e_find_positions : mg "find_positions" = some (.ref (He.ga K "find_positions")) := He.glo_ok X G (c.fact 1 (f := .glo "find_positions") rfl)
  have e_run_end : mg "run_end" = some (.ref (He.ga K "run_end")) := He.glo_ok X G (c.fact 2 (f := .glo "run_end") rfl)
  have e_quoted_end : mg "quoted_end" = some (.ref (He.ga K "quoted_end")) := He.glo_ok X G (c.fact 3 (f := .glo "quoted_end") rfl)
  have e_sign_at : mg "sign_at" = some (.ref (He.ga K "sign_at")) := He.glo_ok X G (c.fact 4 (f := .glo "sign_at") rfl)
  have e_split : mg "split" = some (.ref (He.ga K "split")) := He.glo_ok X G (c.fact 5 (f := .glo "split") rfl)
  have e_law_only : mg "_law_only" = some (.ref (He.ga K "_law_only")) := He.glo_ok X G (c.fact 6 (f := .glo "_law_only") rfl)
  have e_law_told : mg "_law_told" = some (.ref (He.ga K "_law_told")) := He.glo_ok X G (c.fact 7 (f := .glo "_law_told") rfl)
  have e_law_actual : mg "_law_actual" = some (.ref (He.ga K "_law_actual")) := He.glo_ok X G (c.fact 8 (f := .glo "_law_actual") rfl)
  have e_law_cell : mg "_law_cell" = some (.ref (He.ga K "_law_cell")) := He.glo_ok X G (c.fact 9 (f := .glo "_law_cell") rfl)
  have e_law_digits : mg "_law_digits" = some (.ref (He.ga K "_law_digits")) := He.glo_ok X G (c.fact 10 (f := .glo "_law_digits") rfl)
  have e_law_draw : mg "_law_draw" = some (.ref (He.ga K "_law_draw")) := He.glo_ok X G (c.fact 11 (f := .glo "_law_draw") rfl)
  have e_law_word : mg "_law_word" = some (.ref (He.ga K "_law_word")) := He.glo_ok X G (c.fact 12 (f := .glo "_law_word") rfl)
  have e_law_sign : mg "_law_sign" = some (.ref (He.ga K "_law_sign")) := He.glo_ok X G (c.fact 13 (f := .glo "_law_sign") rfl)
  have e_law_spoilt : mg "_law_spoilt" = some (.ref (He.ga K "_law_spoilt")) := He.glo_ok X G (c.fact 14 (f := .glo "_law_spoilt") rfl)
  have e_law_is_integer : mg "_law_is_integer" = some (.ref (He.ga K "_law_is_integer")) := He.glo_ok X G (c.fact 15 (f := .glo "_law_is_integer") rfl)
  have e_law_same : mg "_law_same" = some (.ref (He.ga K "_law_same")) := He.glo_ok X G (c.fact 16 (f := .glo "_law_same") rfl)
  have e_law_apart : mg "_law_apart" = some (.ref (He.ga K "_law_apart")) := He.glo_ok X G (c.fact 17 (f := .glo "_law_apart") rfl)
  have e_law : mg "law" = some (.ref (He.ga K "law")) := He.glo_ok X G (c.fact 18 (f := .glo "law") rfl)
  have e_BadReading : mg "BadReading" = some (.ref (He.ga K "BadReading")) := He.glo_ok X G (c.fact 19 (f := .glo "BadReading") rfl)
  have e_BadRegion : mg "BadRegion" = some (.ref (He.ga K "BadRegion")) := He.glo_ok X G (c.fact 20 (f := .glo "BadRegion") rfl)
  have e_TooLarge : mg "TooLarge" = some (.ref (He.ga K "TooLarge")) := He.glo_ok X G (c.fact 21 (f := .glo "TooLarge") rfl)
  have e_Fault : mg "Fault" = some (.ref (He.ga K "Fault")) := He.glo_ok X G (c.fact 22 (f := .glo "Fault") rfl)
  have e_TooMany : mg "TooMany" = some (.ref (He.ga K "TooMany")) := He.glo_ok X G (c.fact 23 (f := .glo "TooMany") rfl)
  have e_OutsideImage : mg "OutsideImage" = some (.ref (He.ga K "OutsideImage")) := He.glo_ok X G (c.fact 24 (f := .glo "OutsideImage") rfl)
  have e_BadNumbers : mg "BadNumbers" = some (.ref (He.ga K "BadNumbers")) := He.glo_ok X G (c.fact 25 (f := .glo "BadNumbers") rfl)
  have e_BadWords : mg "BadWords" = some (.ref (He.ga K "BadWords")) := He.glo_ok X G (c.fact 26 (f := .glo "BadWords") rfl)
  have e_PageError : mg "PageError" = some (.ref (He.ga K "PageError")) := He.glo_ok X G (c.fact 27 (f := .glo "PageError") rfl)
  have m_len : mg "len" = none := He.free_ok X G (c.fact 28 (f := .free "len") rfl)
  have m_int : mg "int" = none := He.free_ok X G (c.fact 29 (f := .free "int") rfl)
  have m_isinstance : mg "isinstance" = none := He.free_ok X G (c.fact 30 (f := .free "isinstance") rfl)
  have m_range : mg "range" = none := He.free_ok X G (c.fact 31 (f := .free "range") rfl)
  have m_bool : mg "bool" = none := He.free_ok X G (c.fact 32 (f := .free "bool") rfl)
  have m_str : mg "str" = none := He.free_ok X G (c.fact 33 (f := .free "str") rfl)
  have m_tuple : mg "tuple" = none := He.free_ok X G (c.fact 34 (f := .free "tuple") rfl)
  have m_list : mg "list" = none := He.free_ok X G (c.fact 35 (f := .free "list") rfl)
  have m_ValueError : mg "ValueError" = none := He.free_ok X G (c.fact 36 (f := .free "ValueError") rfl)
  have c_DIGITS : ∃ t, mg "DIGITS" = some (.str "0123456789" t) := He.str_ok X G (c.fact 37 (f := .str "DIGITS" "0123456789") rfl)
  have c_IN_WORDS : ∃ t, mg "IN_WORDS" = some (.str "_0123456789abcdefghijklmnopqrstuvwxyzABCDEFGHIJKLMNOPQRSTUVWXYZ" t) := He.str_ok X G (c.fact 38 (f := .str "IN_WORDS" "_0123456789abcdefghijklmnopqrstuvwxyzABCDEFGHIJKLMNOPQRSTUVWXYZ") rfl)
  have c_LETTERS : ∃ t, mg "LETTERS" = some (.str "abcdefghijklmnopqrstuvwxyzABCDEFGHIJKLMNOPQRSTUVWXYZ" t) := He.str_ok X G (c.fact 39 (f := .str "LETTERS" "abcdefghijklmnopqrstuvwxyzABCDEFGHIJKLMNOPQRSTUVWXYZ") rfl)
  have c_LONGEST_NUMBER : ∃ t, mg "LONGEST_NUMBER" = some (.int 9 t) := He.int_ok X G (c.fact 40 (f := .int "LONGEST_NUMBER" 9) rfl)
  have c_LONGEST_WORD : ∃ t, mg "LONGEST_WORD" = some (.int 20 t) := He.int_ok X G (c.fact 41 (f := .int "LONGEST_WORD" 20) rfl)
  have c_SYMBOLS : ∃ t, mg "SYMBOLS" = some (.str ",;(){}=|*+?" t) := He.str_ok X G (c.fact 42 (f := .str "SYMBOLS" ",;(){}=|*+?") rfl)
  obtain ⟨fdi_Fault, UI_Fault⟩ := c.def_ 19 (d := dd_init_Fault) rfl
  unfold moreD at cm
  try simp only [Bool.and_eq_true] at cm
  obtain ⟨C_Fault, q_Fault_BadReading, q_Fault_BadRegion, q_Fault_TooLarge, q_Fault_Fault, q_Fault_TooMany, q_Fault_OutsideImage, q_Fault_BadNumbers, q_Fault_BadWords, q_Fault_ValueError, q_Fault_PageError, X_Fault, n_Fault_reason, n_Fault_column, n_Fault_line, T_Fault, iC_Fault, tI_Fault, nf_Fault_line, nf_Fault_column, nf_Fault_reason, rd_PageError, ci_PageError, sp_PageError⟩ := cm
  have I_Fault : FnOk P w K mg base CX0 1 (He.ma K (He.ga K "Fault") "__init__") fdi_Fault ["self", "line", "column", "reason"] (spInit (He.ga K "Fault") 3 fl_Fault ok_Fault) := i_Fault UI_Fault (oexB_ok T_Fault) e_PageError rd_PageError (cinB_ok ci_PageError) (He.eqO_ok sp_PageError) (He.eqO_ok nf_Fault_line) (He.eqO_ok nf_Fault_column) (He.eqO_ok nf_Fault_reason)
  have bI_Fault : Binds K fdi_Fault ["self", "line", "column", "reason"] [] := FunD.bindsN UI_Fault (fun _ _ _ _ _ _ us hl => match us, hl with | [_, _, _, _], _ => rfl)
  have F_law_after : FnD P w K mg base 1 "_law_after" 2 G_law_after := fn_dl U_law_after sc_law_after e_law_after bb_law_after rfl (fun cdv A outer s H E hr => d_law_after  hr)
  have F_find_positions : FnD P w K mg base 1 "find_positions" 1 G_find_positions := fn_dl U_find_positions sc_find_positions e_find_positions bb_find_positions rfl (fun cdv A outer s H E hr => d_find_positions  hr)
  have F_run_end : FnN P w K mg base 3 "run_end" 6 G_run_end := fn_dlN U_run_end sc_run_end e_run_end bb_run_end rfl (fun cdv A outer s H E hr => d_run_end (oexB_ok T_Fault) (He.eqO_ok iC_Fault) (of_decide_eq_true tI_Fault) I_Fault bI_Fault e_Fault (by decide) m_len hr)
  have F_quoted_end : FnN P w K mg base 3 "quoted_end" 3 G_quoted_end := fn_dlN U_quoted_end sc_quoted_end e_quoted_end bb_quoted_end rfl (fun cdv A outer s H E hr => d_quoted_end (oexB_ok T_Fault) (He.eqO_ok iC_Fault) (of_decide_eq_true tI_Fault) I_Fault bI_Fault e_Fault (by decide) m_len hr)
  have F_sign_at : FnN P w K mg base 4 "sign_at" 3 G_sign_at := fn_dlN U_sign_at sc_sign_at e_sign_at bb_sign_at rfl (fun cdv A outer s H E hr => d_sign_at (oexB_ok T_Fault) (He.eqO_ok iC_Fault) (of_decide_eq_true tI_Fault) I_Fault bI_Fault e_Fault (by decide) F_run_end (by decide) F_quoted_end (by decide) m_int c_DIGITS c_IN_WORDS c_LETTERS c_LONGEST_NUMBER c_LONGEST_WORD c_SYMBOLS hr)
  have F_split : FnN P w K mg base 5 "split" 1 G_split := fn_dlN U_split sc_split e_split bb_split rfl (fun cdv A outer s H E hr => d_split F_find_positions (by decide) F_sign_at (by decide) m_len hr)
  have F_law_only_Fault : FnK P w K mg base 1 "_law_only" 2 "Fault" true (G_law_only "Fault") := by
    unfold G_law_only
    simp only [rc_Fault_BadReading, rc_Fault_BadRegion, rc_Fault_TooLarge, rc_Fault_Fault, rc_Fault_TooMany, rc_Fault_OutsideImage, rc_Fault_BadNumbers, rc_Fault_BadWords, rc_Fault_ValueError]
    exact fn_dlK U_law_only sc_law_only e_law_only bb_law_only rfl (fun cdv A outer s H E p d hd hr hx => by
    exact d_law_only (excB_ok C_Fault) e_Fault e_BadReading (of_decide_eq_true q_Fault_BadReading) e_BadRegion (of_decide_eq_true q_Fault_BadRegion) e_TooLarge (of_decide_eq_true q_Fault_TooLarge) e_Fault (of_decide_eq_true q_Fault_Fault) e_TooMany (of_decide_eq_true q_Fault_TooMany) e_OutsideImage (of_decide_eq_true q_Fault_OutsideImage) e_BadNumbers (of_decide_eq_true q_Fault_BadNumbers) e_BadWords (of_decide_eq_true q_Fault_BadWords) m_ValueError (of_decide_eq_true q_Fault_ValueError) m_isinstance hr hd hx)
  have F_law_only : ∀ (cn : Str) (hb : Bool), (cn = "Fault" ∧ hb = true) → FnK P w K mg base 1 "_law_only" 2 cn hb (G_law_only cn) := by
    intro cn hb h
    rcases h with ⟨rfl, rfl⟩
    · exact F_law_only_Fault
  have F_law_told_Fault : FnK P w K mg base 2 "_law_told" 1 "Fault" true (G_law_told "Fault") := by
    unfold G_law_told
    exact fn_dlK U_law_told sc_law_told e_law_told bb_law_told rfl (fun cdv A outer s H E p d hd hr hx => by
    exact d_law_told (excB_ok C_Fault) e_Fault (xfB_ok X_Fault) (He.eqO_ok n_Fault_reason) (He.eqO_ok n_Fault_column) (He.eqO_ok n_Fault_line) F_law_only_Fault (by decide) m_range hr hd hx)
  have F_law_told : ∀ (cn : Str) (hb : Bool), (cn = "Fault" ∧ hb = true) → FnK P w K mg base 2 "_law_told" 1 cn hb (G_law_told cn) := by
    intro cn hb h
    rcases h with ⟨rfl, rfl⟩
    · exact F_law_told_Fault
  have hsub : ∀ cn hb b cls, sub_law_actual cn hb = some b → mg cn = some cls → PySem.W.exmOne K cls (.ref (He.ga K "PageError")) = some b := by
    intro cn hb b cls e1 e2
    unfold sub_law_actual at e1
    split at e1
    · rename_i hh
      obtain ⟨rfl, _⟩ := hh
      rw [e_Fault] at e2
      cases e1
      cases e2
      exact He.exm_ok (c.fact 43 (f := .exm "Fault" "PageError" true) rfl)
    cases e1
  have G_law_told_ : ∀ (cn : Str) (hb : Bool), sub_law_actual cn hb = some true → FnK P w K mg base 2 "_law_told" 1 cn hb (G_law_told cn) := by
    intro cn hb e1
    unfold sub_law_actual at e1
    refine F_law_told cn hb ?_
    split at e1
    · rename_i hh
      exact hh
    cases e1
  have F_law_actual : FnD P w K mg base 6 "_law_actual" 1 G_law_actual := fn_dl U_law_actual sc_law_actual e_law_actual bb_law_actual rfl (fun cdv A outer s H E hr => d_law_actual e_PageError hsub F_split (by decide) G_law_told_ (by decide) hr)
  have F_law_cell : FnD P w K mg base 1 "_law_cell" 2 G_law_cell := fn_dl U_law_cell sc_law_cell e_law_cell bb_law_cell rfl (fun cdv A outer s H E hr => d_law_cell m_len hr)
  have F_law_digits : FnD P w K mg base 2 "_law_digits" 3 G_law_digits := fn_dl U_law_digits sc_law_digits e_law_digits bb_law_digits rfl (fun cdv A outer s H E hr => d_law_digits F_law_cell (by decide) m_int m_range hr)
  have F_law_draw : FnD P w K mg base 1 "_law_draw" 2 G_law_draw := fn_dl U_law_draw sc_law_draw e_law_draw bb_law_draw rfl (fun cdv A outer s H E hr => d_law_draw m_int m_len hr)
  have F_law_word : FnD P w K mg base 2 "_law_word" 2 G_law_word := fn_dl U_law_word sc_law_word e_law_word bb_law_word rfl (fun cdv A outer s H E hr => d_law_word F_law_draw (by decide) m_range hr)
  have F_law_sign : FnD P w K mg base 3 "_law_sign" 1 G_law_sign := fn_dl U_law_sign sc_law_sign e_law_sign bb_law_sign rfl (fun cdv A outer s H E hr => d_law_sign F_law_draw (by decide) F_law_word (by decide) m_range hr)
  have F_law_spoilt : FnD P w K mg base 3 "_law_spoilt" 1 G_law_spoilt := fn_dl U_law_spoilt sc_law_spoilt e_law_spoilt bb_law_spoilt rfl (fun cdv A outer s H E hr => d_law_spoilt F_law_draw (by decide) F_law_word (by decide) hr)
  have F_law_is_integer : FnD P w K mg base 1 "_law_is_integer" 1 G_law_is_integer := fn_dl U_law_is_integer sc_law_is_integer e_law_is_integer bb_law_is_integer rfl (fun cdv A outer s H E hr => d_law_is_integer m_bool m_int m_isinstance hr)
  have F_law_same_ : ∀ n, FnD P w K mg base (n + 1) "_law_same" 2 (G_law_same n) := by
    intro n
    induction n with
    | zero => exact fnD_st U_law_same e_law_same bb_law_same rfl
    | succ n ih =>
      rw [show n + 1 + 1 = n + 1 + 1 by omega]
      exact fn_dl U_law_same sc_law_same e_law_same bb_law_same rfl (fun cdv A outer s H E hr => d_law_same F_law_is_integer (by omega) ih (Nat.le_refl _) m_bool m_int m_isinstance m_len m_range m_str m_tuple hr)
  have F_law_same := F_law_same_ 4
  have F_law_apart : FnD P w K mg base 1 "_law_apart" 2 G_law_apart := fn_dl U_law_apart sc_law_apart e_law_apart bb_law_apart rfl (fun cdv A outer s H E hr => d_law_apart  hr)
  have F_law : FnD P w K mg base 7 "law" 1 G_law := fn_dl U_law sc_law e_law bb_law rfl (fun cdv A outer s H E hr => d_law F_law_after (by decide) F_law_actual (by decide) F_law_digits (by decide) F_law_draw (by decide) F_law_sign (by decide) F_law_spoilt (by decide) F_law_same (by decide) F_law_apart (by decide) m_isinstance m_len m_list m_range m_tuple hr)
  have F2 : FnOk P w K mg base CX0 7 (He.ga K "law") fd_law ["script"] (spOf K mg 1 (fun ds S => noEx (G_law ds S))) := fn_okS U_law sc_law (fun cdv A outer s H E hr => d_law F_law_after (by decide) F_law_actual (by decide) F_law_digits (by decide) F_law_draw (by decide) F_law_sign (by decide) F_law_spoilt (by decide) F_law_same (by decide) F_law_apart (by decide) m_isinstance m_len m_list m_range m_tuple hr)
  exact ⟨_, fd_law, e_law, U_law, F2⟩
def names0 : List PySem.Str := ["PageError", "Fault", "TooLarge", "BadNumbers", "BadRegion", "BadReading", "BadWords", "OutsideImage", "TooMany", "split", "find_positions", "sign_at", "run_end", "quoted_end", "_law_is_integer", "_law_cell", "_law_list_is", "_law_same", "_law_pair_is", "_law_digits", "_law_draw", "_law_only", "_law_told", "_law_word", "_law_sign", "_law_apart", "_law_after", "_law_spoilt", "_law_actual", "LETTERS"]
def names1 : List PySem.Str := ["DIGITS", "IN_WORDS", "SYMBOLS", "LONGEST_WORD", "LONGEST_NUMBER"]
def namesD : List PySem.Str := names0 ++ names1
abbrev RR : PySem.W.OpenRow := PySem.W.OpenLaw.row PySem.Challenge.rw_surelyread_k02_signs
abbrev hkD : PySem.W.Hook := hookM 4 faD fnsD moreD
theorem runD (w : World) : HandSHeadRun.RunEq RR (PySem.W.view RR.prog [38]) hkD (obM 4 faD fnsD moreD) 6000 namesD w := by
  intro os
  kernel_rfl
end My
namespace My
open PySem PySem.Spec PyProof.Rows L2 DL
abbrev ClB (S : Sto) : Prop := ClS S.length S
theorem clB_app {S T : Sto} (h : ClB S) (h2 : ClB T) : ClB (S ++ T) := DL.clS_app (DL.clS_mono (by simp) h) (DL.clS_mono (by simp) h2)
theorem clB_set {S : Sto} {n : Nat} {o : O} (h : ClB S) (ho : ClO S.length o) : ClB (S.set n o) := by
  show ClS (S.set n o).length _
  rw [List.length_set]
  exact DL.clS_set h ho
theorem clB_of {S : Sto} (h : ClS 0 S) : ClB S := DL.clS_mono (Nat.zero_le _) h
theorem clB_eq {S S2 : Sto} (hl : S2.length = S.length) (h : ClB S2) : ClS S.length S2 := by rw [← hl]; exact h
theorem WE_pickTB {S S2 T : Sto} {d : PyData} {Q : D → Sto → Prop} {E : Xc → Sto → Prop} (hl : S2.length = S.length) (hc : ClB S2) (q : Q (.p d) S2) : WE (pick S (S2 ++ T) (.p d)) Q E := by
  unfold pick
  rw [take_left' hl]
  rw [if_pos ⟨by rw [List.length_append]; omega, clB_eq hl hc, trivial⟩]
  exact q
theorem WE_defB {N : List Str} {F : SD} {ds : List D} {S : Sto} {Q : D → Sto → Prop} {E : Xc → Sto → Prop} (R : D → Sto → Prop)
    (h : WS (F (start0 N ds) S) ⟨fun _ S' => R .non S', R, fun _ _ => False, fun _ _ => False, fun _ _ _ => False⟩)
    (hR : ∀ d S', R d S' → ∃ p S2 T, d = .p p ∧ S' = S2 ++ T ∧ S2.length = S.length ∧ ClB S2 ∧ Q (.p p) S2) : WE (gB N F ds S) Q E := by
  refine WE_gB (WS_mono h (fun _ S' r => ?_) (fun d S' r => ?_) (fun _ _ z => z.elim) (fun _ _ z => z.elim) (fun _ _ _ z => z.elim))
  · obtain ⟨p, S2, T, e, rfl, h1, h2, q⟩ := hR _ _ r
    show WE (pick S (S2 ++ T) .non) Q E
    rw [e]
    exact WE_pickTB h1 h2 q
  · obtain ⟨p, S2, T, rfl, rfl, h1, h2, q⟩ := hR _ _ r
    exact WE_pickTB h1 h2 q
def boxO (dg : List Int) (at_ : Nat) : O := .lst [.p (.list (dg.map .int)), .p (.int at_)]
def drawV (dg : List Int) (at_ : Nat) (many : Int) : Int := (match dg[at_]? with | some d => d | none => (at_ : Int) * 7 + 3) % many
theorem drawV_lt {dg : List Int} {at_ : Nat} {many : Int} (h : 0 < many) : 0 ≤ drawV dg at_ many ∧ drawV dg at_ many < many := by
  unfold drawV
  exact ⟨Int.emod_nonneg _ (by omega), Int.emod_lt_of_pos _ h⟩
theorem clS_nil {k : Nat} : ClS k [] := fun _ h => by cases h
theorem clS_set {k n : Nat} {S : Sto} {o : O} (h : ClS k S) (ho : ClO k o) : ClS k (S.set n o) := fun x hx => by
  rcases List.mem_or_eq_of_mem_set hx with h' | rfl
  · exact h x h'
  · exact ho
theorem clS_app {k : Nat} {S T : Sto} (h : ClS k S) (h2 : ClS k T) : ClS k (S ++ T) := fun x hx => by
  rcases List.mem_append.mp hx with h' | h'
  · exact h x h'
  · exact h2 x h'
theorem clS_one {k : Nat} {o : O} (h : ClO k o) : ClS k [o] := fun x hx => by
  rw [List.mem_singleton.mp hx]
  exact h
theorem clO_box {k : Nat} {dg : List Int} {at_ : Nat} : ClO k (boxO dg at_) := fun d hd => by
  simp at hd
  rcases hd with rfl | rfl <;> trivial
theorem clO_p {k : Nat} {l : List PyData} : ClO k (.lst (l.map .p)) := fun d hd => by
  obtain ⟨p, _, rfl⟩ := List.mem_map.mp hd
  trivial
theorem clD_mono {k k' : Nat} {d : D} (hk : k ≤ k') (q : ClD k d) : ClD k' d := by
  cases d with
  | ob n => exact Nat.lt_of_lt_of_le q hk
  | _ => trivial
theorem clS_mono {k k' : Nat} {S : Sto} (hk : k ≤ k') (h : ClS k S) : ClS k' S := by
  intro o ho
  have q := h o ho
  cases o with
  | lst l => exact fun d hd => clD_mono hk (q d hd)
  | fz l => trivial
  | dic l => exact fun d hd => clD_mono hk (q d hd)
  | dik l => exact fun d hd => clD_mono hk (q d hd)
  | ins c l => exact fun d hd => clD_mono hk (q d hd)
  | lck => trivial
  | lkd _ => trivial
theorem draw_ok {S : Sto} {n : Nat} {dg : List Int} {at_ : Nat} {many : Int} (hs : S[n]? = some (boxO dg at_)) (hm : 0 < many) (hc : ClB S) :
    G_law_draw [.ob n, .int many] S = .ok (.int (drawV dg at_ many)) (S.set n (boxO dg (at_ + 1))) := by
  have hl : n < S.length := (List.getElem?_eq_some_iff.mp hs).1
  refine gB_rt (T := []) ?_ (by simp) (DL.clS_set hc clO_box)
  rw [List.append_nil]
  by_cases h : at_ < dg.length
  · have e : dg[at_]? = some dg[at_] := List.getElem?_eq_getElem h
    simp [B_law_draw, start0, hs, boxO, List.getElem?_set_self hl, drawV, h, e, hm]
  · have e : dg[at_]? = none := List.getElem?_eq_none (by omega)
    simp [B_law_draw, start0, hs, boxO, List.getElem?_set_self hl, drawV, h, e, hm]
theorem cell_ok {S : Sto} {ns : List Int} {k : Nat} (hc : ClB S) : ∃ c : Int, G_law_cell [.scr ns, .int k] S = .ok (.int c) S := by
  by_cases h : k < ns.length
  · have e : ns[k]? = some ns[k] := List.getElem?_eq_getElem h
    refine ⟨ns[k], gB_rt (T := []) ?_ rfl (hc)⟩
    simp [B_law_cell, start0, h, e]
  · refine ⟨0, gB_rt (T := []) ?_ rfl (hc)⟩
    simp [B_law_cell, start0, h]
end My
namespace My
open PySem PySem.Spec PyProof.Rows L2 DL
noncomputable def d60 : SD := (sIf (asB (eBin gGt (eVar 5) (eC (.int 0)))) (sSeq (sExpr (eMth gApp (eVar 3) (aCons (eBin gMod (eB gToInt (aCons (eVar 5) (aNil))) (eC (.int 1000))) (aNil)))) (sSet 5 (eBin gFdv (eVar 5) (eC (.int 1000))))) (sNil))
noncomputable def d12 : SD := (sSeq (sSet 7 (eBin gMod (eB gToInt (aCons (eBin gAdd (eBin gAdd (eBin gMul (eVar 7) (eC (.int 16807))) (eBin gMul (eC (.int 7)) (eVar 6))) (eC (.int 1))) (aNil))) (eC (.int 2147483647)))) (sExpr (eMth gApp (eVar 3) (aCons (eBin gMod (eB gToInt (aCons (eBin gFdv (eVar 7) (eC (.int 997))) (aNil))) (eC (.int 1000))) (aNil)))))
noncomputable def dgBody (g_law_cell : FD) : SD := (sSeq (sSet 5 (eCall 2 g_law_cell (aCons (eVar 0) (aCons (eVar 4) (aNil))))) (sSeq (sIf (asB (eBin gLt (eVar 5) (eC (.int 0)))) (sSet 5 (eBin gSub (eC (.int 1)) (eBin gMul (eC (.int 2)) (eVar 5)))) (sNil)) (sIf (asB (eBin gGe (eVar 5) (eBin gPow (eC (.int 10)) (eC (.int 18))))) (sFor (iRgA (aCons (eC (.int 60)) (aNil))) (gNm 6) d60) (sSeq (sSet 7 (eBin gMod (eB gToInt (aCons (eBin gAdd (eBin gAdd (eBin gMul (eVar 5) (eC (.int 48271))) (eBin gMul (eVar 4) (eC (.int 69621)))) (eC (.int 11))) (aNil))) (eC (.int 2147483647)))) (sFor (iRgA (aCons (eC (.int 12)) (aNil))) (gNm 6) d12)))))
theorem B_digits_eq (g_law_cell : FD) : B_law_digits g_law_cell = sSeq (sSet 3 (eLstO (aNil))) (sSeq (sFor (iRgB (aCons (eVar 1) (aCons (eVar 2) (aNil)))) (gNm 4) (dgBody g_law_cell)) (sRetR (eVar 3))) := rfl
abbrev dgL (dg : List Int) : O := .lst (dg.map fun d => D.p (.int d))
section
variable {S : Sto} {dg : List Int}
theorem dgL_at : (S ++ [dgL dg])[S.length]? = some (dgL dg) := by simp
theorem dgL_set {b : O} : (S ++ [dgL dg]).set S.length b = S ++ [b] := by simp
theorem d60_ok {v0 v1 v2 v4 v6 v7 : Option D} {c : Int} (hl : dg.length < 1000000) : ∃ (dg' : List Int) (c' : Int), dg'.length ≤ dg.length + 1 ∧
    d60 [v0, v1, v2, some (.ob S.length), v4, some (.int c), v6, v7] (S ++ [dgL dg]) = .nx [v0, v1, v2, some (.ob S.length), v4, some (.int c'), v6, v7] (S ++ [dgL dg']) := by
  by_cases h : 0 < c
  · refine ⟨dg ++ [c % 1000], c / 1000, by simp, ?_⟩
    have h2 : dg.length < 16777216 := by omega
    simp [d60, h, dgL_at, h2]
  · refine ⟨dg, c, by omega, ?_⟩
    simp [d60, h]
theorem d12_ok {v0 v1 v2 v4 v5 : Option D} {t s : Int} (hl : dg.length < 1000000) : ∃ (dg' : List Int) (s' : Int), dg'.length ≤ dg.length + 1 ∧
    d12 [v0, v1, v2, some (.ob S.length), v4, v5, some (.int t), some (.int s)] (S ++ [dgL dg]) = .nx [v0, v1, v2, some (.ob S.length), v4, v5, some (.int t), some (.int s')] (S ++ [dgL dg']) := by
  have h2 : dg.length < 16777216 := by omega
  exact ⟨dg ++ [(s * 16807 + 7 * t + 1) % 2147483647 / 997 % 1000], (s * 16807 + 7 * t + 1) % 2147483647, by simp, by simp [d12, dgL_at, h2]⟩
theorem d60_all {v0 v1 v2 v4 v6 v7 : Option D} {c : Int} {n : Nat} (hl : dg.length + n < 1000000) : ∃ (dg' : List Int) (v5' v6' : Option D), dg'.length ≤ dg.length + n ∧
    forL (gNm 6) d60 (fun _ => True) (rngL 0 n) [v0, v1, v2, some (.ob S.length), v4, some (.int c), v6, v7] (S ++ [dgL dg]) = .nx [v0, v1, v2, some (.ob S.length), v4, v5', v6', v7] (S ++ [dgL dg']) := by
  obtain ⟨ρ', S', e, dg', c', v6', hl', rfl, rfl⟩ := forL_inv (g := gNm 6) (chk := fun _ => True) (body := d60)
    (fun i ρ S' => ∃ (dg' : List Int) (c' : Int) (v6' : Option D), dg'.length ≤ dg.length + i ∧ S' = S ++ [dgL dg'] ∧ ρ = [v0, v1, v2, some (.ob S.length), v4, some (.int c'), v6', v7]) (rngL 0 n) 0 [v0, v1, v2, some (.ob S.length), v4, some (.int c), v6, v7] (S ++ [dgL dg])
    (fun i d ρ S' hd hI => by
      obtain ⟨hi, rfl⟩ := rngL_get hd
      obtain ⟨dg', c', v6', hl', rfl, rfl⟩ := hI
      obtain ⟨dg2, c2, hl2, e2⟩ := d60_ok (S := S) (dg := dg') (v0 := v0) (v1 := v1) (v2 := v2) (v4 := v4) (v6 := some (.int (0 + i))) (v7 := v7) (c := c') (by omega)
      exact ⟨_, _, rfl, _, _, .inl e2, trivial, dg2, c2, _, by omega, rfl, rfl⟩) ⟨dg, c, v6, by omega, rfl, rfl⟩
  simp only [rngL_length, Nat.zero_add] at hl'
  exact ⟨dg', _, _, hl', e⟩
theorem d12_all {v0 v1 v2 v4 v5 v6 : Option D} {s : Int} {n : Nat} (hl : dg.length + n < 1000000) : ∃ (dg' : List Int) (v6' v7' : Option D), dg'.length ≤ dg.length + n ∧
    forL (gNm 6) d12 (fun _ => True) (rngL 0 n) [v0, v1, v2, some (.ob S.length), v4, v5, v6, some (.int s)] (S ++ [dgL dg]) = .nx [v0, v1, v2, some (.ob S.length), v4, v5, v6', v7'] (S ++ [dgL dg']) := by
  obtain ⟨ρ', S', e, dg', s', v6', hl', rfl, rfl⟩ := forL_inv (g := gNm 6) (chk := fun _ => True) (body := d12)
    (fun i ρ S' => ∃ (dg' : List Int) (s' : Int) (v6' : Option D), dg'.length ≤ dg.length + i ∧ S' = S ++ [dgL dg'] ∧ ρ = [v0, v1, v2, some (.ob S.length), v4, v5, v6', some (.int s')]) (rngL 0 n) 0 [v0, v1, v2, some (.ob S.length), v4, v5, v6, some (.int s)] (S ++ [dgL dg])
    (fun i d ρ S' hd hI => by
      obtain ⟨hi, rfl⟩ := rngL_get hd
      obtain ⟨dg', s', v6', hl', rfl, rfl⟩ := hI
      obtain ⟨dg2, s2, hl2, e2⟩ := d12_ok (S := S) (dg := dg') (v0 := v0) (v1 := v1) (v2 := v2) (v4 := v4) (v5 := v5) (t := 0 + i) (s := s') (by omega)
      exact ⟨_, _, rfl, _, _, .inl e2, trivial, dg2, s2, _, by omega, rfl, rfl⟩) ⟨dg, s, v6, by omega, rfl, rfl⟩
  simp only [rngL_length, Nat.zero_add] at hl'
  exact ⟨dg', _, _, hl', e⟩
theorem big62_60 : big62 60 = true := big62_of (by decide) (by decide)
theorem big62_12 : big62 12 = true := big62_of (by decide) (by decide)
theorem dgBody_ok {ns : List Int} {v1 v2 v5 v6 v7 : Option D} {k : Nat} (hc : ClB S) (hl : dg.length + 60 < 1000000) : ∃ (dg' : List Int) (w5 w6 w7 : Option D), dg'.length ≤ dg.length + 60 ∧
    dgBody G_law_cell [some (.scr ns), v1, v2, some (.ob S.length), some (.int k), v5, v6, v7] (S ++ [dgL dg]) = .nx [some (.scr ns), v1, v2, some (.ob S.length), some (.int k), w5, w6, w7] (S ++ [dgL dg']) := by
  obtain ⟨c, ec⟩ := cell_ok (ns := ns) (k := k) (S := S ++ [dgL dg]) (clB_app hc (clS_one (by unfold dgL; rw [show (dg.map fun d => D.p (.int d)) = (dg.map PyData.int).map .p by simp]; exact clO_p)))
  have step : ∀ c' : Int, ∃ (dg' : List Int) (w5 w6 w7 : Option D), dg'.length ≤ dg.length + 60 ∧
      sIf (asB (eBin gGe (eVar 5) (eBin gPow (eC (.int 10)) (eC (.int 18))))) (sFor (iRgA (aCons (eC (.int 60)) (aNil))) (gNm 6) d60) (sSeq (sSet 7 (eBin gMod (eB gToInt (aCons (eBin gAdd (eBin gAdd (eBin gMul (eVar 5) (eC (.int 48271))) (eBin gMul (eVar 4) (eC (.int 69621)))) (eC (.int 11))) (aNil))) (eC (.int 2147483647)))) (sFor (iRgA (aCons (eC (.int 12)) (aNil))) (gNm 6) d12))
        [some (.scr ns), v1, v2, some (.ob S.length), some (.int k), some (.int c'), v6, v7] (S ++ [dgL dg]) = .nx [some (.scr ns), v1, v2, some (.ob S.length), some (.int k), w5, w6, w7] (S ++ [dgL dg']) := by
    intro c'
    by_cases h : (1000000000000000000 : Int) ≤ c'
    · obtain ⟨dg', w5, w6, l, e⟩ := d60_all (S := S) (dg := dg) (v0 := some (.scr ns)) (v1 := v1) (v2 := v2) (v4 := some (.int k)) (v6 := v6) (v7 := v7) (c := c') (n := 60) (by omega)
      exact ⟨dg', w5, w6, v7, l, by simp [h, big62_60, e]⟩
    · obtain ⟨dg', w6, w7, l, e⟩ := d12_all (S := S) (dg := dg) (v0 := some (.scr ns)) (v1 := v1) (v2 := v2) (v4 := some (.int k)) (v5 := some (.int c')) (v6 := v6) (s := (c' * 48271 + k * 69621 + 11) % 2147483647) (n := 12) (by omega)
      exact ⟨dg', some (.int c'), w6, w7, by omega, by simp [h, big62_12, e]⟩
  by_cases h : c < 0
  · obtain ⟨dg', w5, w6, w7, l, e⟩ := step (1 - 2 * c)
    refine ⟨dg', w5, w6, w7, l, ?_⟩
    rw [← e]
    unfold dgBody
    simp [ec, h]
  · obtain ⟨dg', w5, w6, w7, l, e⟩ := step c
    refine ⟨dg', w5, w6, w7, l, ?_⟩
    rw [← e]
    unfold dgBody
    simp [ec, h]
end
end My
namespace My
open PySem PySem.Spec PyProof.Rows L2 DL
section
variable {S : Sto} {dg : List Int}
theorem pAll_ints : pAll (dg.map fun d => D.p (.int d)) = some (dg.map .int) := by
  rw [show (dg.map fun d => D.p (.int d)) = (dg.map PyData.int).map .p by simp]
  exact pAll_map _
theorem restD_dgL : restD (.ob S.length) (S ++ [dgL dg]) = some (.list (dg.map .int), S ++ [.fz (dg.map .int)]) := by
  show (match (S ++ [dgL dg])[S.length]? with
    | some (.lst l) => (pAll l).map fun l' => (PyData.list l', (S ++ [dgL dg]).set S.length (.fz l'))
    | some (.fz l) => some (.list l, S ++ [dgL dg])
    | _ => none) = _
  rw [dgL_at]
  show (pAll (dg.map fun d => D.p (.int d))).map _ = _
  rw [pAll_ints, Option.map_some, dgL_set]
theorem digits_ok {ns : List Int} {lo hi : Nat} (hc : ClB S) (hh : hi ≤ 1000) (hlo : lo ≤ hi) : ∃ dg : List Int, G_law_digits [.scr ns, .int lo, .int hi] S = .ok (.lst (dg.map .int)) S := by
  obtain ⟨ρ', S', e, dg, v5, v6, v7, v4, hl, rfl, rfl⟩ := forL_inv (g := gNm 4) (chk := fun _ => True) (body := dgBody G_law_cell)
    (fun i ρ S' => ∃ (dg : List Int) (v5 v6 v7 v4 : Option D), dg.length ≤ 60 * i ∧ S' = S ++ [dgL dg] ∧ ρ = [some (.scr ns), some (.int lo), some (.int hi), some (.ob S.length), v4, v5, v6, v7]) (rngL lo (hi - lo)) 0 [some (.scr ns), some (.int lo), some (.int hi), some (.ob S.length), none, none, none, none] (S ++ [dgL []])
    (fun i d ρ S' hd hI => by
      obtain ⟨hi', rfl⟩ := rngL_get hd
      obtain ⟨dg, v5, v6, v7, v4, hl, rfl, rfl⟩ := hI
      obtain ⟨dg2, w5, w6, w7, hl2, e2⟩ := dgBody_ok (S := S) (dg := dg) (ns := ns) (v1 := some (.int lo)) (v2 := some (.int hi)) (v5 := v5) (v6 := v6) (v7 := v7) (k := lo + i) hc (by omega)
      rw [Int.natCast_add] at e2
      exact ⟨_, _, gNm_ap, _, _, .inl e2, trivial, dg2, w5, w6, w7, _, by omega, rfl, rfl⟩) ⟨[], none, none, none, none, by simp, rfl, rfl⟩
  have hb : big62 (lo : Int) = true ∧ big62 (hi : Int) = true := ⟨big62_nat (by omega), big62_nat (by omega)⟩
  have hn : ((hi : Int) - lo).toNat = hi - lo := by omega
  refine ⟨dg, gB_rt (T := [.fz (dg.map .int)]) ?_ rfl (hc)⟩
  rw [B_digits_eq]
  have e0 : start0 NN_law_digits [.scr ns, .int lo, .int hi] = [some (.scr ns), some (.int lo), some (.int hi), none, none, none, none, none] := rfl
  rw [e0]
  rw [sSeq_ap, sSet_ap, eLstO_ap, aNil_ap]
  simp only [Rs.bind_ok, liftS_ok, seqO_nx, List.length_nil, Nat.zero_le, if_true, List.set_cons_succ, List.set_cons_zero]
  rw [sSeq_ap, sFor_ap, iRgB_ap]
  simp only [aCons_ap, aNil_ap, eVar_ap, List.getElem?_cons_succ, List.getElem?_cons_zero, Option.join_some, oRs_some, Rs.bind_ok, liftS_ok, hb, hn, and_self, if_true]
  rw [show O.lst [] = dgL [] from rfl, e]
  simp only [seqO_nx, sRetR_ap, eVar_ap, List.getElem?_cons_succ, List.getElem?_cons_zero, Option.join_some, oRs_some, liftS_ok, restD_dgL, rtO_some]
end
end My
namespace My
open PySem PySem.Spec PyProof.Rows L2 DL
def IsBox (b : O) : Prop := ∃ dg at_, b = boxO dg at_
theorem IsBox.cl {b : O} {k : Nat} (h : IsBox b) : ClO k b := by
  obtain ⟨dg, at_, rfl⟩ := h
  exact clO_box
section
variable {S : Sto} {n : Nat} {b : O} {Q : D → Sto → Prop} {E : Xc → Sto → Prop}
theorem draw_wp {many : Int} (hs : S[n]? = some b) (hb : IsBox b) (hm : 0 < many) (hc : ClB S) (h : ∀ v b', 0 ≤ v → v < many → IsBox b' → Q (.int v) (S.set n b')) : WE (G_law_draw [.ob n, .int many] S) Q E := by
  obtain ⟨dg, at_, rfl⟩ := hb
  obtain ⟨k1, k2⟩ := drawV_lt (dg := dg) (at_ := at_) hm
  exact WE_of (draw_ok hs hm hc) (h _ _ k1 k2 ⟨_, _, rfl⟩)
theorem digits_wp {ns : List Int} {lo hi : Nat} (hc : ClB S) (hh : hi ≤ 1000) (hlo : lo ≤ hi) (h : ∀ dg : List Int, Q (.lst (dg.map .int)) S) : WE (G_law_digits [.scr ns, .int lo, .int hi] S) Q E := by
  obtain ⟨dg, e⟩ := digits_ok (ns := ns) hc hh hlo
  exact WE_of e (h dg)
abbrev sx (l : List Nat) : Str := SX.S l
@[simp] theorem sx_len (l : List Nat) : (sx l).length = l.length := by show l.toArray.size = _; simp
@[simp] theorem sx_tl (l : List Nat) : (sx l).cps.toList = l := by simp [SX.S]
theorem joinL_nil : ∀ l : List Nat, TL.joinL [] (l.map fun c => [c]) = l
  | [] => rfl
  | [c] => rfl
  | c :: c2 :: r => by
    show [c] ++ ([] ++ TL.joinL [] ((c2 :: r).map fun c => [c])) = _
    rw [joinL_nil (c2 :: r)]
    rfl
theorem join_chars (l : List Nat) : Txt.join (sx []) (l.map fun c => sx [c]) = sx l := by
  have := SX.join_S [] (l.map fun c => [c])
  rw [List.map_map, joinL_nil] at this
  exact this
theorem strsP_map (l : List Str) : strsP (l.map PyData.str) = some l := by
  induction l with
  | nil => rfl
  | cons x l ih => simp [strsP, ih]
theorem lens_one (l : List Nat) : ((l.map fun c => sx [c]).map (·.length)).sum = l.length := by
  induction l with
  | nil => rfl
  | cons c l ih =>
    rw [List.map_cons, List.map_cons, List.sum_cons, ih, List.length_cons]
    simp
    omega
theorem emptyS : Str.ofString "" = sx [] := by decide +kernel
theorem seqP_lst {S : Sto} {l : List PyData} : seqP S (.p (.list l)) = some l := by
  show vList S (.p (.list l)) = some l
  unfold vList
  simp [lItems, pAll_map]
theorem join_wp {cs : List Nat} {f : ED} {ρ : DL.Env} {S1 S2 : Sto} (e : f ρ S1 = .ok (.lst (cs.map fun c => PyData.str (sx [c]))) S2) (hl : cs.length < 1000000) (q : Q (.str (sx cs)) S2) : WE (eJoin (eC (.str "")) f ρ S1) Q E := by
  refine WE_of (a := .str (sx cs)) (S := S2) ?_ q
  unfold eJoin
  rw [eC_ap, Rs.bind_ok]
  simp only [e, Rs.bind_ok]
  have sp : seqP S2 (.lst (cs.map fun c => PyData.str (sx [c]))) = some ((cs.map fun c => sx [c]).map PyData.str) := by
    rw [seqP_lst, List.map_map]
    rfl
  rw [sp]
  simp only [strsP_map]
  rw [emptyS, join_chars, lens_one, if_pos]
  simp
  omega
theorem join_lc {f : ED} {ρ : DL.Env} {S1 : Sto} (h : WE (f ρ S1) (fun d S2 => ∃ cs : List Nat, cs.length < 1000000 ∧ d = .lst (cs.map fun c => PyData.str (sx [c])) ∧ Q (.str (sx cs)) S2) (fun _ _ => False)) : WE (eJoin (eC (.str "")) f ρ S1) Q E := by
  obtain ⟨d, S2, e, cs, hl, rfl, q⟩ := WE_get h
  exact join_wp e hl q
end
end My
namespace My
open PySem PySem.Spec PyProof.Rows L2 DL
abbrev ch (c : Nat) : PyData := .str ⟨#[c]⟩
theorem inC {neg : Bool} {c : Nat} {z : Str} {S : Sto} : gInA neg (.p (ch c)) (.p (.str z)) S = .ok (.bl (neg ^^ decide (c ∈ z.cps.toList))) S := rfl
theorem ch_eq {c : Nat} {z : Str} {d : Nat} (h : z = ⟨#[d]⟩) : ((⟨#[c]⟩ : Str) == z) = decide (c = d) := by
  subst h
  rw [Bool.eq_iff_iff, decide_eq_true_eq, beq_iff_eq]
  constructor
  · intro h
    have h := congrArg (fun s : Str => s.cps.toList) h
    simpa using h
  · intro h; rw [h]
theorem nlS : Str.ofString "\n" = ⟨#[10]⟩ := by decide +kernel
theorem qtS : Str.ofString "\"" = ⟨#[34]⟩ := by decide +kernel
theorem atI_nat {α : Type} {l : List α} {i : Nat} {x : α} (e : l[i]? = some x) : atI l (i : Int) = some x := by
  have hi := (List.getElem?_eq_some_iff.mp e).1
  unfold atI ixN
  rw [List.getElem?_eq_getElem hi] at e
  simp [hi, Option.some.inj e]
theorem gIx_sx {t : List Nat} {i c : Nat} {S : Sto} (h : t.length ≤ 16777216) (e : t[i]? = some c) : gIx (.p (.str (sx t))) (.p (.int (i : Nat))) S = .ok (.p (ch c)) S := by
  rw [gIx_str, sx_len, sizeLine_val, if_pos h, sx_tl, atI_nat e]
  rfl
abbrev dL (ps : List PyData) : O := .lst (ps.map .p)
theorem dl_at {S : Sto} {l : List PyData} : (S ++ [dL l])[S.length]? = some (dL l) := by simp
theorem dl_set {S : Sto} {l : List PyData} {b : O} : (S ++ [dL l]).set S.length b = S ++ [b] := by simp
theorem dL_snoc {ps : List PyData} {p : PyData} : O.lst (ps.map D.p ++ [D.p p]) = dL (ps ++ [p]) := by simp [dL]
theorem rest_top {S : Sto} {l : List PyData} : restD (.ob S.length) (S ++ [dL l]) = some (.list l, S ++ [.fz l]) := by
  unfold restD
  simp only [dl_at]
  show (pAll (l.map D.p)).map _ = _
  rw [pAll_map, Option.map_some, dl_set]
def aft : Nat → Nat → List Nat → Nat × Nat
  | l, c, [] => (l, c)
  | l, c, x :: t => if x = 10 then aft (l + 1) 1 t else aft l (c + 1) t
theorem aft_app : ∀ (a b : List Nat) (l c : Nat), aft l c (a ++ b) = aft (aft l c a).1 (aft l c a).2 b
  | [], b, l, c => rfl
  | x :: a, b, l, c => by
    rw [List.cons_append, aft, aft]
    split
    · exact aft_app a b _ _
    · exact aft_app a b _ _
theorem aft_snoc (a : List Nat) (x l c : Nat) : aft l c (a ++ [x]) = if x = 10 then ((aft l c a).1 + 1, 1) else ((aft l c a).1, (aft l c a).2 + 1) := by
  rw [aft_app, aft]
  rfl
abbrev plc (p : Nat × Nat) : PyData := .tuple [.int p.1, .int p.2]
def posP (t : List Nat) : List PyData := (List.range (t.length + 1)).map fun k => plc (aft 1 1 (t.take k))
theorem posP_at {t : List Nat} {k : Nat} (h : k ≤ t.length) : (posP t)[k]? = some (plc (aft 1 1 (t.take k))) := by
  unfold posP
  rw [List.getElem?_map, List.getElem?_range (by omega)]
  rfl
section
variable {S : Sto} {Q : D → Sto → Prop} {E : Xc → Sto → Prop} {t : List Nat}
abbrev FP (t : List Nat) (v1 v2 v3 v4 : Option D) : DL.Env := [some (.p (.str (sx t))), v1, v2, v3, v4]
theorem find_wp (hl : t.length < 100000) (hc : ClB S) (q : Q (.p (.list (posP t))) S) : WE (G_find_positions [.p (.str (sx t))] S) Q E := by
  refine WE_defB (fun d S' => d = .p (.list (posP t)) ∧ ∃ T, S' = S ++ T) ?_ (fun d S' ⟨e1, T, e2⟩ => ⟨_, S, T, e1, e2, rfl, hc, q⟩)
  rw [show start0 NN_find_positions [.p (.str (sx t))] = FP t none none none none from rfl]
  unfold B_find_positions
  have pos1 : posP t = (List.range t.length).map (fun k => plc (aft 1 1 (t.take k))) ++ [plc (aft 1 1 t)] := by
    unfold posP
    rw [List.range_succ, List.map_append]
    simp
  refine WS_cut (fun ρ S' => S' = S ++ [dL []] ∧ ρ = FP t (some (.ob S.length)) none none none) ?_ ?_
  · simp -implicitDefEqProofs only [DL.wpW, reduceIte, Nat.reduceAdd, Nat.reduceLeDiff, DL.sFor_ap]
    all_goals exact ⟨by trivial, by trivial⟩
  rintro ρ S' ⟨rfl, rfl⟩
  refine WS_cut (fun ρ S' => S' = S ++ [dL []] ∧ ρ = FP t (some (.ob S.length)) (some (.int ((1 : Nat) : Int))) none none) ?_ ?_
  · simp -implicitDefEqProofs only [DL.wpW, reduceIte, Nat.reduceAdd, Nat.reduceLeDiff, DL.sFor_ap]
    all_goals exact ⟨by trivial, by trivial⟩
  rintro ρ S' ⟨rfl, rfl⟩
  refine WS_cut (fun ρ S' => S' = S ++ [dL []] ∧ ρ = FP t (some (.ob S.length)) (some (.int ((1 : Nat) : Int))) (some (.int ((1 : Nat) : Int))) none) ?_ ?_
  · simp -implicitDefEqProofs only [DL.wpW, reduceIte, Nat.reduceAdd, Nat.reduceLeDiff, DL.sFor_ap]
    all_goals exact ⟨by trivial, by trivial⟩
  rintro ρ S' ⟨rfl, rfl⟩
  refine WS_cut (fun ρ S' => S' = S ++ [dL ((List.range t.length).map fun k => plc (aft 1 1 (t.take k)))] ∧ ∃ v4, ρ = FP t (some (.ob S.length)) (some (.int ((aft 1 1 t).1 : Nat))) (some (.int ((aft 1 1 t).2 : Nat))) v4) ?_ ?_
  · simp -implicitDefEqProofs only [DL.wpW, reduceIte, Nat.reduceAdd, Nat.reduceLeDiff, DL.sFor_ap, iTxt]
    refine WS_for (fun i ρ S' => S' = S ++ [dL ((List.range i).map fun k => plc (aft 1 1 (t.take k)))] ∧ ∃ v4, ρ = FP t (some (.ob S.length)) (some (.int ((aft 1 1 (t.take i)).1 : Nat))) (some (.int ((aft 1 1 (t.take i)).2 : Nat))) v4) _ 0 _ _ ⟨rfl, none, by rw [List.take_zero]; rfl⟩ ?_ ?_
    · rintro i d ρ S' hd ⟨rfl, v4, rfl⟩
      rw [List.getElem?_map] at hd
      cases ec : t[i]? with
      | none => rw [ec] at hd; cases hd
      | some c =>
        rw [ec] at hd
        cases hd
        have hi := (List.getElem?_eq_some_iff.mp ec).1
        have htk : t.take (i + 1) = t.take i ++ [c] := by rw [List.take_succ, ec]; rfl
        rw [Nat.zero_add, htk, aft_snoc, List.range_succ, List.map_append, List.map_cons, List.map_nil]
        generalize aft 1 1 (t.take i) = p
        have hL : ((List.range i).map fun k => plc (aft 1 1 (t.take k))).length < 16777216 := by rw [List.length_map, List.length_range]; omega
        generalize (List.range i).map (fun k => plc (aft 1 1 (t.take k))) = L at hL
        by_cases hn : c = 10
        · have b : ((⟨#[c]⟩ : Str) == Str.ofString "\n") = true := by rw [ch_eq nlS]; exact decide_eq_true hn
          rw [if_pos hn]
          simp -implicitDefEqProofs only [DL.wpW, reduceIte, Nat.reduceAdd, Nat.reduceLeDiff, DL.sFor_ap, dl_at, b]
          rw [List.length_map, if_pos hL, dL_snoc, dl_set]
          exact ⟨trivial, rfl, _, rfl⟩
        · have b : ((⟨#[c]⟩ : Str) == Str.ofString "\n") = false := by rw [ch_eq nlS]; exact decide_eq_false hn
          rw [if_neg hn]
          simp -implicitDefEqProofs only [DL.wpW, reduceIte, Nat.reduceAdd, Nat.reduceLeDiff, DL.sFor_ap, dl_at, b]
          rw [List.length_map, if_pos hL, dL_snoc, dl_set]
          exact ⟨trivial, rfl, _, rfl⟩
    · rintro ρ S' ⟨rfl, v4, rfl⟩
      rw [List.length_map, Nat.zero_add, List.take_length]
      exact ⟨rfl, v4, rfl⟩
  rintro ρ S' ⟨rfl, v4, rfl⟩
  have hL : ((List.range t.length).map fun k => plc (aft 1 1 (t.take k))).length < 16777216 := by rw [List.length_map, List.length_range]; omega
  generalize (List.range t.length).map (fun k => plc (aft 1 1 (t.take k))) = L at hL pos1
  simp -implicitDefEqProofs only [DL.wpW, reduceIte, Nat.reduceAdd, Nat.reduceLeDiff, DL.sFor_ap, dl_at, rest_top]
  rw [List.length_map, if_pos hL, dL_snoc, dl_set, rest_top]
  simp -implicitDefEqProofs only [DL.wpW, reduceIte, Nat.reduceAdd, Nat.reduceLeDiff, DL.sFor_ap, pos1]
  exact ⟨trivial, _, rfl⟩
end
end My
namespace My
open PySem PySem.Spec PyProof.Rows L2 DL
theorem WE_defX {N : List Str} {F : SD} {ds : List D} {S : Sto} {Q : D → Sto → Prop} {E : Xc → Sto → Prop} (R : D → Sto → Prop) (RX : Xc → Sto → Prop)
    (h : WS (F (start0 N ds) S) ⟨fun _ S' => R .non S', R, fun _ _ => False, fun _ _ => False, fun x _ S' => RX x S'⟩)
    (hR : ∀ d S', R d S' → ∃ p S2 T, d = .p p ∧ S' = S2 ++ T ∧ S2.length = S.length ∧ ClB S2 ∧ Q (.p p) S2)
    (hX : ∀ x S', RX x S' → ∃ S2 T, S' = S2 ++ T ∧ S2.length = S.length ∧ ClB S2 ∧ E x S2) : WE (gB N F ds S) Q E := by
  refine WE_gB (WS_mono h (fun _ S' r => ?_) (fun d S' r => ?_) (fun _ _ z => z.elim) (fun _ _ z => z.elim) (fun x _ S' r => ?_))
  · obtain ⟨p, S2, T, e, rfl, h1, h2, q⟩ := hR _ _ r
    show WE (pick S (S2 ++ T) .non) Q E
    rw [e]
    exact WE_pickTB h1 h2 q
  · obtain ⟨p, S2, T, rfl, rfl, h1, h2, q⟩ := hR _ _ r
    exact WE_pickTB h1 h2 q
  · obtain ⟨S2, T, rfl, h1, h2, q⟩ := hX _ _ r
    show WE (pickX S (S2 ++ T) x) Q E
    unfold pickX
    have et : (S2 ++ T).take S.length = S2 := by rw [← h1, List.take_left]
    rw [et, if_pos ⟨by rw [List.length_append]; omega, clB_eq h1 h2⟩]
    exact q
def flt (p : Nat × Nat) (r : Str) : Xc := ⟨"Fault", [("reason", .str r), ("column", .int p.2), ("line", .int p.1)]⟩
theorem big_log {k : Nat} (hk : k < 1000000) : ((k : Int).natAbs).log2 < 1920 := by
  have := Nat.log2_le_self k
  simp only [Int.natAbs_natCast]
  by_cases h0 : k = 0
  · subst h0; decide
  · exact (Nat.log2_lt h0).mpr (Nat.lt_of_lt_of_le hk (Nat.le_trans (by decide : 1000000 ≤ 2 ^ 20) (Nat.pow_le_pow_right (by decide) (by decide))))
theorem fault_ok {p : Nat × Nat} {r : Str} {ga : AD} {ρ : DL.Env} {S : Sto} (h1 : p.1 < 1000000) (h2 : p.2 < 1000000) (hr : r.length ≤ 1000000) (e : ga ρ S = .ok [.int (p.1 : Nat), .int (p.2 : Nat), .p (.str r)] S) :
    sRaise (mMk "Fault" 3 fl_Fault ok_Fault ga) ρ S = .ex (flt p r) ρ S := by
  have ok : ok_Fault [.int (p.1 : Nat), .int (p.2 : Nat), .str r] = true := by
    show (decide _ && (decide _ && decide _)) = true
    rw [decide_eq_true (big_log h1), decide_eq_true (big_log h2), decide_eq_true hr]
    rfl
  have e2 : mMk "Fault" 3 fl_Fault ok_Fault ga ρ S = .ok (flt p r) S := by
    unfold mMk
    rw [e]
    show (if _ then _ else _) = _
    rw [if_pos ⟨rfl, ok, rfl⟩]
    rfl
  unfold sRaise
  rw [e2]
theorem aft_le : ∀ (t : List Nat) (l c : Nat), (aft l c t).1 ≤ l + t.length ∧ (aft l c t).2 ≤ c + t.length + 1
  | [], l, c => ⟨Nat.le_refl _, Nat.le_succ _⟩
  | x :: t, l, c => by
    rw [aft, List.length_cons]
    split
    · obtain ⟨h1, h2⟩ := aft_le t (l + 1) 1
      exact ⟨by omega, by omega⟩
    · obtain ⟨h1, h2⟩ := aft_le t l (c + 1)
      exact ⟨by omega, by omega⟩
theorem gLen_sx {t : List Nat} {S : Sto} (h : t.length ≤ 16777216) : gLen [.p (.str (sx t))] S = .ok (.int (t.length : Nat)) S := by
  unfold gLen
  simp only [sx_len, sizeLine_val]
  rw [if_pos h]
section
variable {S : Sto} {Q : D → Sto → Prop} {E : Xc → Sto → Prop} {a w b : List Nat} {C r : Str} {n : Nat}
abbrev RE (t : List Nat) (at_ : Nat) (C : Str) (n : Nat) (r : Str) (v6 v7 v8 : Option D) : DL.Env := [some (.p (.str (sx t))), some (.int (at_ : Nat)), some (.p (.str C)), some (.int (n : Nat)), some (.p (.list (posP t))), some (.p (.str r)), v6, v7, v8]
theorem run_wp (ht : (a ++ w ++ b).length < 100000) (hr : r.length ≤ 1000000) (hw : ∀ c ∈ w, c ∈ C.cps.toList) (hn : w.length ≤ n + 1) (hb : w.length ≤ n → ∀ c, b[0]? = some c → c ∉ C.cps.toList) (hc : ClB S)
    (q : w.length ≤ n → Q (.int ((a.length + w.length : Nat) : Int)) S) (qx : w.length = n + 1 → E (flt (aft 1 1 (a ++ w.take n)) r) S) :
    WE (G_run_end [.p (.str (sx (a ++ w ++ b))), .int (a.length : Nat), .p (.str C), .int (n : Nat), .p (.list (posP (a ++ w ++ b))), .p (.str r)] S) Q E := by
  refine WE_defX (fun d S' => d = .int ((a.length + w.length : Nat) : Int) ∧ w.length ≤ n ∧ S' = S) (fun x S' => w.length = n + 1 ∧ x = flt (aft 1 1 (a ++ w.take n)) r ∧ S' = S) ?_ (fun d S' ⟨e1, h, e2⟩ => ⟨_, S, [], e1, by rw [e2, List.append_nil], rfl, hc, q h⟩) (fun x S' ⟨h, e1, e2⟩ => ⟨S, [], by rw [e2, List.append_nil], rfl, hc, by rw [e1]; exact qx h⟩)
  have get : ∀ i, i < w.length → (a ++ w ++ b)[a.length + i]? = w[i]? := fun i hi => by
    rw [List.append_assoc, List.getElem?_append_right (Nat.le_add_right _ _), Nat.add_sub_cancel_left, List.getElem?_append_left hi]
  have getb : (a ++ w ++ b)[a.length + w.length]? = b[0]? := by
    rw [← List.length_append, List.getElem?_append_right (Nat.le_refl _), Nat.sub_self]
  have tk : ∀ i, i ≤ w.length → (a ++ w ++ b).take (a.length + i) = a ++ w.take i := fun i hi => by
    rw [List.append_assoc, List.take_length_add_append, List.take_append_of_le_length hi]
  have hT : (a ++ w ++ b).length = a.length + w.length + b.length := by simp [Nat.add_assoc]
  generalize a ++ w ++ b = t at ht get getb tk hT
  have hlt : t.length ≤ 16777216 := by omega
  rw [show start0 NN_run_end [.p (.str (sx t)), .int (a.length : Nat), .p (.str C), .int (n : Nat), .p (.list (posP t)), .p (.str r)] = RE t a.length C n r none none none from rfl]
  unfold B_run_end
  refine WS_cut (fun ρ S' => S' = S ∧ ρ = RE t a.length C n r (some (.int (a.length : Nat))) none none) ?_ ?_
  · simp -implicitDefEqProofs only [DL.wpW, reduceIte, Nat.reduceAdd, Nat.reduceLeDiff, DL.sFor_ap]
    all_goals exact ⟨by trivial, by trivial⟩
  rintro ρ S' ⟨e1, rfl⟩
  rw [e1]
  clear e1 S'
  refine WS_cut (fun ρ S' => S' = S ∧ w.length ≤ n ∧ ∃ v7 v8, ρ = RE t a.length C n r (some (.int ((a.length + w.length : Nat) : Int))) v7 v8) ?_ ?_
  · rw [sWhile_ap]
    refine WS_while (fun k ρ S' => ∃ i, i ≤ w.length ∧ i ≤ n ∧ k = w.length - i ∧ S' = S ∧ ρ = RE t a.length C n r (some (.int ((a.length + i : Nat) : Int))) none none) ?_ 100000 w.length _ _ (by omega) ⟨0, Nat.zero_le _, Nat.zero_le _, rfl, rfl, rfl⟩
    rintro k ρ S' ⟨i, hi, hin, rfl, rfl, rfl⟩
    by_cases hiw : i < w.length
    · have lt : (((a.length + i : Nat) : Int) < (t.length : Int)) = True := eq_true (by omega)
      obtain ⟨c, ec⟩ : ∃ c, w[i]? = some c := ⟨_, List.getElem?_eq_getElem hiw⟩
      have gc : gIx (.p (.str (sx t))) (.int ((a.length + i : Nat) : Int)) S' = .ok (.p (ch c)) S' := gIx_sx hlt (by rw [get i hiw, ec])
      have hcC := hw c (List.mem_of_getElem? ec)
      by_cases hin2 : i = n
      · have eq1 : ((((a.length + i : Nat) : Int)) == ((a.length : Int) + (n : Int))) = true := by rw [beq_iff_eq]; omega
        have gp := posP_at (t := t) (k := a.length + i) (by omega)
        rw [tk i hi] at gp
        have hb1 := aft_le (a ++ w.take i) 1 1
        have hl1 : (a ++ w.take i).length ≤ a.length + w.length := by rw [List.length_append, List.length_take]; omega
        have g2 : ∀ (p : Nat × Nat) (v6 v7 v8 : Option D) (S : Sto), gTupD 2 (gsCons (gNm 7) (gsCons (gNm 8) gsNil)) (.p (plc p)) (RE t a.length C n r v6 v7 v8) S = .ok (RE t a.length C n r v6 (some (.int (p.1 : Nat))) (some (.int (p.2 : Nat)))) S := fun _ _ _ _ _ => rfl
        have fo := fun v6 => fault_ok (p := aft 1 1 (a ++ w.take i)) (r := r) (ga := aCons (eVar 7) (aCons (eVar 8) (aCons (eVar 5) aNil))) (ρ := RE t a.length C n r v6 (some (.int ((aft 1 1 (a ++ w.take i)).1 : Nat))) (some (.int ((aft 1 1 (a ++ w.take i)).2 : Nat)))) (S := S') (by omega) (by omega) hr rfl
        simp -implicitDefEqProofs only [DL.wpW, reduceIte, Nat.reduceAdd, Nat.reduceLeDiff, DL.sFor_ap, gLen_sx hlt, lt, decide_true, gc, inC, decide_eq_true hcC, eq1, gp, Option.map_some, g2, fo]
        show w.length = n + 1 ∧ flt (aft 1 1 (a ++ w.take i)) r = flt (aft 1 1 (a ++ w.take n)) r ∧ S' = S'
        exact ⟨by omega, by rw [hin2], rfl⟩
      · have eq1 : ((((a.length + i : Nat) : Int)) == ((a.length : Int) + (n : Int))) = false := by rw [beq_eq_false_iff_ne]; omega
        simp -implicitDefEqProofs only [DL.wpW, reduceIte, Nat.reduceAdd, Nat.reduceLeDiff, DL.sFor_ap, gLen_sx hlt, lt, decide_true, gc, inC, decide_eq_true hcC, eq1]
        exact ⟨w.length - (i + 1), by omega, i + 1, by omega, by omega, rfl, trivial, rfl⟩
    · have hie : i = w.length := by omega
      subst hie
      cases eb : b[0]? with
      | none =>
        have hbl : b.length = 0 := by
          have := List.getElem?_eq_none_iff.mp eb
          omega
        have lt : (((a.length + w.length : Nat) : Int) < (t.length : Int)) = False := eq_false (by omega)
        simp -implicitDefEqProofs only [DL.wpW, reduceIte, Nat.reduceAdd, Nat.reduceLeDiff, DL.sFor_ap, gLen_sx hlt, lt, decide_false]
        exact ⟨trivial, hin, none, none, rfl⟩
      | some c =>
        have hbl := (List.getElem?_eq_some_iff.mp eb).1
        have lt : (((a.length + w.length : Nat) : Int) < (t.length : Int)) = True := eq_true (by omega)
        have gc : gIx (.p (.str (sx t))) (.int ((a.length + w.length : Nat) : Int)) S' = .ok (.p (ch c)) S' := gIx_sx hlt (by rw [getb, eb])
        have hcC := hb hin c eb
        simp -implicitDefEqProofs only [DL.wpW, reduceIte, Nat.reduceAdd, Nat.reduceLeDiff, DL.sFor_ap, gLen_sx hlt, lt, decide_true, gc, inC, decide_eq_false hcC]
        exact ⟨trivial, hin, none, none, rfl⟩
  rintro ρ S' ⟨e1, h, v7, v8, rfl⟩
  subst e1
  simp -implicitDefEqProofs only [DL.wpW, reduceIte, Nat.reduceAdd, Nat.reduceLeDiff, DL.sFor_ap]
  exact ⟨trivial, h, trivial⟩
end
end My
namespace My
open PySem PySem.Spec PyProof.Rows L2 DL
theorem gSl_s {z : Str} {lo hi : Option Int} {S : Sto} : gSl (.p (.str z)) lo hi S = if z.length ≤ sizeLine then .ok (.str (cutS z lo hi)) S else .st := rfl
theorem cut_mid (r : List Nat) {a b : Nat} (h : a ≤ b) : cutS (sx r) (some (a : Int)) (some (b : Int)) = sx ((r.take b).drop a) := by
  unfold cutS
  rw [HT.sIx_nat, HT.sIx_nat, sx_len, sx_tl, List.drop_take]
  have : (r.drop (min a r.length)).take (min b r.length - min a r.length) = (r.drop a).take (b - a) := by
    by_cases h1 : a ≤ r.length
    · rw [Nat.min_eq_left h1]
      by_cases h2 : b ≤ r.length
      · rw [Nat.min_eq_left h2]
      · rw [Nat.min_eq_right (by omega), List.take_of_length_le (by rw [List.length_drop]; omega), List.take_of_length_le (by rw [List.length_drop]; omega)]
    · rw [Nat.min_eq_right (show r.length ≤ a by omega), List.drop_of_length_le (Nat.le_refl _), List.drop_of_length_le (by omega)]
      simp
  rw [this]
def dbl (q : List Nat) : List Nat := q.flatMap fun c => if c = 34 then [34, 34] else [c]
theorem dbl_app (a b : List Nat) : dbl (a ++ b) = dbl a ++ dbl b := by unfold dbl; rw [List.flatMap_append]
theorem dbl_q {q : List Nat} : dbl (34 :: q) = 34 :: 34 :: dbl q := rfl
theorem dbl_c {c : Nat} {q : List Nat} (h : c ≠ 34) : dbl (c :: q) = c :: dbl q := by
  unfold dbl
  rw [List.flatMap_cons, if_neg h]
  rfl
theorem dbl_len : ∀ q : List Nat, q.length ≤ (dbl q).length
  | [] => Nat.le_refl _
  | c :: q => by
    have := dbl_len q
    by_cases h : c = 34
    · subst h
      rw [dbl_q, List.length_cons, List.length_cons, List.length_cons]
      omega
    · rw [dbl_c h, List.length_cons, List.length_cons]
      omega
theorem qqS : Str.ofString "\"\"" = ⟨#[34, 34]⟩ := by decide +kernel
theorem sx_eq {l m : List Nat} {z : Str} (h : z.cps.toList = m) : (sx l == z) = decide (l = m) := by
  rw [Bool.eq_iff_iff, decide_eq_true_eq, beq_iff_eq]
  constructor
  · intro e
    rw [← h, ← e, sx_tl]
  · intro e
    have : z = ⟨z.cps⟩ := rfl
    rw [e, ← h, this]
section
variable {S : Sto} {Q : D → Sto → Prop} {E : Xc → Sto → Prop} {a b q : List Nat}
abbrev QE (t : List Nat) (at_ : Nat) (v3 v4 v5 : Option D) : DL.Env := [some (.p (.str (sx t))), some (.int (at_ : Nat)), some (.p (.list (posP t))), v3, v4, v5]
theorem quoted_wp {B : List Nat} (ht : (a ++ 34 :: (dbl q ++ B)).length < 100000) (hB : B = [] ∨ ∃ b, B = 34 :: b ∧ ∀ c, b[0]? = some c → c ≠ 34) (hc : ClB S)
    (qq : B ≠ [] → Q (.int ((a.length + 2 + (dbl q).length : Nat) : Int)) S) (qx : B = [] → E (flt (aft 1 1 (a ++ 34 :: (dbl q ++ B))) "quoted text without an end") S) :
    WE (G_quoted_end [.p (.str (sx (a ++ 34 :: (dbl q ++ B)))), .int (a.length : Nat), .p (.list (posP (a ++ 34 :: (dbl q ++ B))))] S) Q E := by
  have gen : ∀ q1 q2, q = q1 ++ q2 → (a ++ 34 :: (dbl q ++ B)).drop (a.length + 1 + (dbl q1).length) = dbl q2 ++ B := fun q1 q2 e => by
    rw [e, dbl_app, show a ++ 34 :: (dbl q1 ++ dbl q2 ++ B) = (a ++ [34] ++ dbl q1) ++ (dbl q2 ++ B) by simp, show a.length + 1 + (dbl q1).length = (a ++ [34] ++ dbl q1).length by simp only [List.length_append, List.length_cons, List.length_nil]]
    exact List.drop_left
  have hT : (a ++ 34 :: (dbl q ++ B)).length = a.length + 1 + (dbl q).length + B.length := by
    simp only [List.length_append, List.length_cons]
    omega
  generalize a ++ 34 :: (dbl q ++ B) = t at ht gen hT qx
  have hlt : t.length ≤ 16777216 := by omega
  have get : ∀ e c d, t.drop e = c :: d → t[e]? = some c ∧ e < t.length := fun e c d h => by
    have h1 : (t.drop e)[0]? = some c := by rw [h]; rfl
    rw [List.getElem?_drop, Nat.add_zero] at h1
    exact ⟨h1, (List.getElem?_eq_some_iff.mp h1).1⟩
  refine WE_defX (fun d S' => d = .int ((a.length + 2 + (dbl q).length : Nat) : Int) ∧ B ≠ [] ∧ S' = S) (fun x S' => B = [] ∧ x = flt (aft 1 1 t) "quoted text without an end" ∧ S' = S) ?_ (fun d S' ⟨e1, h, e2⟩ => ⟨_, S, [], e1, by rw [e2, List.append_nil], rfl, hc, qq h⟩) (fun x S' ⟨h, e1, e2⟩ => ⟨S, [], by rw [e2, List.append_nil], rfl, hc, by rw [e1]; exact qx h⟩)
  rw [show start0 NN_quoted_end [.p (.str (sx t)), .int (a.length : Nat), .p (.list (posP t))] = QE t a.length none none none from rfl]
  unfold B_quoted_end
  refine WS_cut (fun ρ S' => S' = S ∧ ρ = QE t a.length (some (.int ((a.length + 1 : Nat) : Int))) none none) ?_ ?_
  · simp -implicitDefEqProofs only [DL.wpW, reduceIte, Nat.reduceAdd, Nat.reduceLeDiff, DL.sFor_ap]
    all_goals exact ⟨by trivial, by trivial⟩
  rintro ρ S' ⟨e1, rfl⟩
  rw [e1]
  clear e1 S'
  refine WS_cut (fun ρ S' => S' = S ∧ B = [] ∧ ρ = QE t a.length (some (.int (t.length : Nat))) none none) ?_ ?_
  · rw [sWhile_ap]
    refine WS_while (fun k ρ S' => ∃ q1 q2, q = q1 ++ q2 ∧ k = q2.length ∧ S' = S ∧ ρ = QE t a.length (some (.int ((a.length + 1 + (dbl q1).length : Nat) : Int))) none none) ?_ 100000 q.length _ _ ?_ ⟨[], q, rfl, rfl, rfl, rfl⟩
    · rintro k ρ S' ⟨q1, q2, eq, rfl, rfl, rfl⟩
      have hd := gen q1 q2 eq
      have hlen : (dbl q).length = (dbl q1).length + (dbl q2).length := by rw [eq, dbl_app, List.length_append]
      generalize he : a.length + 1 + (dbl q1).length = e at hd
      cases q2 with
      | nil =>
        rw [List.append_nil] at eq
        subst eq
        rw [show dbl [] ++ B = B from rfl] at hd
        rcases hB with hB | ⟨b, hB, hb⟩
        · have hBl : B.length = 0 := by rw [hB]; rfl
          have lt : (((e : Nat) : Int) < (t.length : Int)) = False := eq_false (by omega)
          simp -implicitDefEqProofs only [DL.wpW, reduceIte, Nat.reduceAdd, Nat.reduceLeDiff, DL.sFor_ap, gLen_sx hlt, lt, decide_false]
          exact ⟨trivial, hB, by rw [show e = t.length by omega]⟩
        · subst hB
          obtain ⟨g1, g2⟩ := get e 34 b hd
          have lt : (((e : Nat) : Int) < (t.length : Int)) = True := eq_true (by omega)
          have gc : gIx (.p (.str (sx t))) (.int ((e : Nat) : Int)) S' = .ok (.p (ch 34)) S' := gIx_sx hlt g1
          have b1 : ((⟨#[34]⟩ : Str) == Str.ofString "\"") = true := by rw [ch_eq qtS]; rfl
          have sl : gSl (.p (.str (sx t))) (some ((e : Nat) : Int)) (some (((e : Nat) : Int) + 2)) S' = .ok (.p (.str (sx (34 :: b.take 1)))) S' := by
            rw [gSl_s, sx_len, sizeLine_val, if_pos hlt, show ((e : Nat) : Int) + 2 = ((e + 2 : Nat) : Int) from rfl, cut_mid t (by omega), List.drop_take, hd, show e + 2 - e = 2 by omega]
            rfl
          have b2 : (sx (34 :: b.take 1) == Str.ofString "\"\"") = false := by
            rw [sx_eq (m := [34, 34]) (by rw [qqS])]
            refine decide_eq_false fun z => ?_
            cases b with
            | nil => cases z
            | cons c b =>
              have := hb c rfl
              simp at z
              exact this z
          simp -implicitDefEqProofs only [DL.wpW, reduceIte, Nat.reduceAdd, Nat.reduceLeDiff, DL.sFor_ap, gLen_sx hlt, lt, decide_true, gc, b1, sl, b2]
          refine ⟨congrArg (fun i => D.p (.int i)) (?_ : (_ : Int) = _), by simp, trivial⟩
          omega
      | cons c q2 =>
        by_cases hc34 : c = 34
        · subst hc34
          rw [dbl_q] at hd hlen
          obtain ⟨g1, g2⟩ := get e 34 _ hd
          have lt : (((e : Nat) : Int) < (t.length : Int)) = True := eq_true (by omega)
          have gc : gIx (.p (.str (sx t))) (.int ((e : Nat) : Int)) S' = .ok (.p (ch 34)) S' := gIx_sx hlt g1
          have b1 : ((⟨#[34]⟩ : Str) == Str.ofString "\"") = true := by rw [ch_eq qtS]; rfl
          have sl : gSl (.p (.str (sx t))) (some ((e : Nat) : Int)) (some (((e : Nat) : Int) + 2)) S' = .ok (.p (.str (sx [34, 34]))) S' := by
            rw [gSl_s, sx_len, sizeLine_val, if_pos hlt, show ((e : Nat) : Int) + 2 = ((e + 2 : Nat) : Int) from rfl, cut_mid t (by omega), List.drop_take, hd, show e + 2 - e = 2 by omega]
            rfl
          have b2 : (sx [34, 34] == Str.ofString "\"\"") = true := by
            rw [sx_eq (m := [34, 34]) (by rw [qqS])]
            rfl
          have hl2 : (dbl (q1 ++ [34])).length = (dbl q1).length + 2 := by rw [dbl_app, List.length_append]; rfl
          simp -implicitDefEqProofs only [DL.wpW, reduceIte, Nat.reduceAdd, Nat.reduceLeDiff, DL.sFor_ap, gLen_sx hlt, lt, decide_true, gc, b1, sl, b2]
          exact ⟨q2.length, by omega, q1 ++ [34], q2, by rw [eq]; simp, rfl, trivial, by rw [hl2, show ((e : Nat) : Int) + 2 = ((a.length + 1 + ((dbl q1).length + 2) : Nat) : Int) by omega]⟩
        · rw [dbl_c hc34] at hd hlen
          obtain ⟨g1, g2⟩ := get e c _ hd
          have lt : (((e : Nat) : Int) < (t.length : Int)) = True := eq_true (by omega)
          have gc : gIx (.p (.str (sx t))) (.int ((e : Nat) : Int)) S' = .ok (.p (ch c)) S' := gIx_sx hlt g1
          have b1 : ((⟨#[c]⟩ : Str) == Str.ofString "\"") = false := by rw [ch_eq qtS]; exact decide_eq_false hc34
          have hl2 : (dbl (q1 ++ [c])).length = (dbl q1).length + 1 := by rw [dbl_app, List.length_append, dbl_c hc34]; rfl
          simp -implicitDefEqProofs only [DL.wpW, reduceIte, Nat.reduceAdd, Nat.reduceLeDiff, DL.sFor_ap, gLen_sx hlt, lt, decide_true, gc, b1]
          exact ⟨q2.length, by omega, q1 ++ [c], q2, by rw [eq]; simp, rfl, trivial, by rw [hl2, show ((e : Nat) : Int) + 1 = ((a.length + 1 + ((dbl q1).length + 1) : Nat) : Int) by omega]⟩
    · have := dbl_len q
      omega
  rintro ρ S' ⟨e1, hBe, rfl⟩
  subst e1
  have gp := posP_at (t := t) (k := t.length) (Nat.le_refl _)
  rw [List.take_length] at gp
  have hb1 := aft_le t 1 1
  have g2 : ∀ (p : Nat × Nat) (v3 v4 v5 : Option D) (S : Sto), gTupD 2 (gsCons (gNm 4) (gsCons (gNm 5) gsNil)) (.p (plc p)) (QE t a.length v3 v4 v5) S = .ok (QE t a.length v3 (some (.int (p.1 : Nat))) (some (.int (p.2 : Nat)))) S := fun _ _ _ _ _ => rfl
  have fo := fun v3 => fault_ok (p := aft 1 1 t) (r := "quoted text without an end") (ga := aCons (eVar 4) (aCons (eVar 5) (aCons (eC (.str "quoted text without an end")) aNil))) (ρ := QE t a.length v3 (some (.int ((aft 1 1 t).1 : Nat))) (some (.int ((aft 1 1 t).2 : Nat)))) (S := S') (by omega) (by omega) (by decide +kernel) rfl
  simp -implicitDefEqProofs only [DL.wpW, reduceIte, Nat.reduceAdd, Nat.reduceLeDiff, DL.sFor_ap, gLen_sx hlt, gp, Option.map_some, g2, fo]
  show B = [] ∧ flt (aft 1 1 t) _ = flt (aft 1 1 t) _ ∧ S' = S'
  exact ⟨hBe, rfl, rfl⟩
end
end My
namespace My
open PySem PySem.Spec PyProof.Rows L2 DL
abbrev LT : Str := "abcdefghijklmnopqrstuvwxyzABCDEFGHIJKLMNOPQRSTUVWXYZ"
abbrev IN : Str := "_0123456789abcdefghijklmnopqrstuvwxyzABCDEFGHIJKLMNOPQRSTUVWXYZ"
abbrev DG : Str := "0123456789"
abbrev SY : Str := ",;(){}=|*+?"
theorem dg_nl : ∀ c ∈ DG.cps.toList, c ∉ LT.cps.toList := by decide +kernel
theorem dg_rng : ∀ c ∈ DG.cps.toList, 48 ≤ c ∧ c ≤ 57 := by decide +kernel
theorem q_nl : 34 ∉ LT.cps.toList ∧ 34 ∉ DG.cps.toList := by decide +kernel
theorem sy_n : ∀ c ∈ SY.cps.toList, c ∉ LT.cps.toList ∧ c ∉ DG.cps.toList ∧ c ≠ 34 := by decide +kernel
inductive Sg
  | wd (w : List Nat)
  | nm (w : List Nat)
  | qt (q : List Nat)
  | sy (c : Nat)
def Sg.txt : Sg → List Nat
  | .wd w => w
  | .nm w => w
  | .qt q => 34 :: (dbl q ++ [34])
  | .sy c => [c]
def Sg.kd : Sg → PyData
  | .wd _ => .str "word"
  | .nm _ => .str "number"
  | .qt _ => .str "quoted"
  | .sy _ => .str "symbol"
def Sg.val : Sg → PyData
  | .wd w => .str (sx w)
  | .nm w => .int (NumText.digitsVal w : Nat)
  | .qt q => .str (sx q)
  | .sy c => ch c
def Sg.ok : Sg → Prop
  | .wd w => (∃ c r, w = c :: r ∧ c ∈ LT.cps.toList) ∧ (∀ x ∈ w, x ∈ IN.cps.toList) ∧ w.length ≤ 20
  | .nm w => w ≠ [] ∧ (∀ x ∈ w, x ∈ DG.cps.toList) ∧ w.length ≤ 9
  | .qt q => q.length ≤ 5
  | .sy c => c ∈ SY.cps.toList
def Sg.stop : Sg → Nat → Prop
  | .wd _, c => c ∉ IN.cps.toList
  | .nm _, c => c ∉ DG.cps.toList
  | .qt _, c => c ≠ 34
  | .sy _, _ => True
open StrLaws in
theorem undbl : ∀ q : List Nat, replL [34, 34] [34] (dbl q) = q
  | [] => replL_nil
  | c :: q => by
    by_cases h : c = 34
    · subst h
      rw [dbl_q, replL_hit (by decide) rfl]
      show [34] ++ replL [34, 34] [34] (dbl q) = _
      rw [undbl q]
      rfl
    · rw [dbl_c h, replL_miss, undbl q]
      intro z
      have z2 := congrArg List.head? z
      simp at z2
      exact h z2
theorem repl_undbl {q : List Nat} : Txt.replace (sx (dbl q)) "\"\"" "\"" = sx q := by
  have h := StrLaws.replace_list (x := sx (dbl q)) (y := "\"\"") (z := "\"") (by rw [qqS]; decide)
  rw [sx_tl, qqS, qtS] at h
  have h2 := undbl q
  rw [show (⟨#[34, 34]⟩ : Str).cps.toList = [34, 34] from rfl, show (⟨#[34]⟩ : Str).cps.toList = [34] from rfl, h2] at h
  have e : ∀ z : Str, z.cps.toList = q → z = sx q := fun z hz => by
    cases z with
    | mk cps =>
      show _ = SX.S q
      unfold SX.S
      rw [← hz]
  rw [qqS, qtS]
  exact e _ h
section
variable {S : Sto} {Q : D → Sto → Prop} {E : Xc → Sto → Prop} {a w b q : List Nat}
abbrev SE (t : List Nat) (at_ : Nat) (v3 v4 v5 v6 : Option D) : DL.Env := [some (.p (.str (sx t))), some (.int (at_ : Nat)), some (.p (.list (posP t))), v3, v4, v5, v6]
theorem sign_wp {s : Sg} (hs : s.ok) (ht : (a ++ s.txt ++ b).length < 100000) (hb : ∀ c, b[0]? = some c → s.stop c) (hc : ClB S)
    (qq : Q (.p (.tuple [s.kd, s.val, .int ((a.length + s.txt.length : Nat) : Int)])) S) : WE (G_sign_at [.p (.str (sx (a ++ s.txt ++ b))), .int (a.length : Nat), .p (.list (posP (a ++ s.txt ++ b)))] S) Q E := by
  refine WE_defX (fun d S' => d = .p (.tuple [s.kd, s.val, .int ((a.length + s.txt.length : Nat) : Int)]) ∧ S' = S) (fun _ _ => False) ?_ (fun d S' ⟨e1, e2⟩ => ⟨_, S, [], e1, by rw [e2, List.append_nil], rfl, hc, qq⟩) (fun _ _ z => z.elim)
  rw [show start0 NN_sign_at [.p (.str (sx (a ++ s.txt ++ b))), .int (a.length : Nat), .p (.list (posP (a ++ s.txt ++ b)))] = SE (a ++ s.txt ++ b) a.length none none none none from rfl]
  unfold B_sign_at
  have hlt : (a ++ s.txt ++ b).length ≤ 16777216 := by omega
  obtain ⟨c, r, htx⟩ : ∃ c r, s.txt = c :: r := by
    cases s with
    | wd w => obtain ⟨⟨c, r, e, _⟩, _⟩ := hs; exact ⟨c, r, e⟩
    | nm w => cases w with
      | nil => exact absurd rfl hs.1
      | cons c r => exact ⟨c, r, rfl⟩
    | qt q => exact ⟨_, _, rfl⟩
    | sy c => exact ⟨_, _, rfl⟩
  have g1 : gIx (.p (.str (sx (a ++ s.txt ++ b)))) (.int (a.length : Nat)) S = .ok (.p (ch c)) S := gIx_sx hlt (by
    rw [htx, List.append_assoc, List.getElem?_append_right (Nat.le_refl _), Nat.sub_self]
    rfl)
  have sl : ∀ i j, i ≤ j → j ≤ s.txt.length → gSl (.p (.str (sx (a ++ s.txt ++ b)))) (some ((a.length + i : Nat) : Int)) (some ((a.length + j : Nat) : Int)) S = .ok (.p (.str (sx ((s.txt.take j).drop i)))) S := fun i j hij hj => by
    rw [gSl_s, sx_len, sizeLine_val, if_pos hlt, cut_mid _ (by omega), List.append_assoc, List.take_length_add_append, List.take_append_of_le_length hj, List.drop_length_add_append]
  refine WS_cut (fun ρ S' => S' = S ∧ ρ = SE (a ++ s.txt ++ b) a.length (some (.p (ch c))) none none none) ?_ ?_
  · simp -implicitDefEqProofs only [DL.wpW, reduceIte, Nat.reduceAdd, Nat.reduceLeDiff, DL.sFor_ap, g1]
    all_goals exact ⟨by trivial, by trivial⟩
  rintro ρ S' ⟨e1, rfl⟩
  rw [e1]
  clear e1 S'
  cases s with
  | wd w =>
    obtain ⟨⟨c', r', e, hcl⟩, hin, hlen⟩ := hs
    have ec : c = c' := by
      have : (c :: r) = c' :: r' := by rw [← htx, ← e]; rfl
      cases this; rfl
    subst ec
    refine WS_cut (fun _ _ => False) ?_ (fun _ _ z => z.elim)
    have s0 := sl 0 w.length (Nat.zero_le _) (Nat.le_refl _)
    rw [Nat.add_zero, List.drop_zero, show (Sg.wd w).txt.take w.length = w from List.take_length] at s0
    simp -implicitDefEqProofs only [DL.wpW, reduceIte, Nat.reduceAdd, Nat.reduceLeDiff, DL.sFor_ap, inC, decide_eq_true hcl, eCallX]
    refine run_wp (w := w) (n := 20) ht (by decide +kernel) hin (by omega) (fun _ => hb) hc (fun _ => ?_) (fun z => by omega)
    simp -implicitDefEqProofs only [DL.wpW, reduceIte, Nat.reduceAdd, Nat.reduceLeDiff, DL.sFor_ap, s0]
    exact ⟨rfl, trivial⟩
  | nm w =>
    obtain ⟨hne, hin, hlen⟩ := hs
    have hcd : c ∈ DG.cps.toList := hin c (by rw [show w = c :: r from htx]; exact List.mem_cons_self)
    have hcl := dg_nl c hcd
    refine WS_cut (fun ρ S' => S' = S ∧ ρ = SE (a ++ (Sg.nm w).txt ++ b) a.length (some (.p (ch c))) none none none) ?_ ?_
    · simp -implicitDefEqProofs only [DL.wpW, reduceIte, Nat.reduceAdd, Nat.reduceLeDiff, DL.sFor_ap, inC, decide_eq_false hcl]
      try exact ⟨by trivial, by trivial⟩
    rintro ρ S' ⟨e1, rfl⟩
    rw [e1]
    clear e1 S'
    refine WS_cut (fun _ _ => False) ?_ (fun _ _ z => z.elim)
    have s0 := sl 0 w.length (Nat.zero_le _) (Nat.le_refl _)
    rw [Nat.add_zero, List.drop_zero, show (Sg.nm w).txt.take w.length = w from List.take_length] at s0
    have i0 : gToIntT [.p (.str (sx w))] S = .ok (.int ((NumText.digitsVal w : Nat) : Int)) S := by
      have hd : intText? (sx w) = some ((NumText.digitsVal w : Nat) : Int) := SX.int_S (by
        rw [List.all_eq_true]
        intro x hx
        have := dg_rng x (hin x hx)
        simp [this]) hne (by omega)
      unfold gToIntT
      simp only [hd, sx_len]
      rw [if_pos (by omega)]
    simp -implicitDefEqProofs only [DL.wpW, reduceIte, Nat.reduceAdd, Nat.reduceLeDiff, DL.sFor_ap, inC, decide_eq_true hcd, eCallX]
    refine run_wp (w := w) (n := 9) ht (by decide +kernel) hin (by omega) (fun _ => hb) hc (fun _ => ?_) (fun z => by omega)
    simp -implicitDefEqProofs only [DL.wpW, reduceIte, Nat.reduceAdd, Nat.reduceLeDiff, DL.sFor_ap, s0, i0]
    exact ⟨rfl, trivial⟩
  | qt q =>
    have ec : c = 34 := by
      have : (c :: r) = 34 :: (dbl q ++ [34]) := by rw [← htx]; rfl
      cases this; rfl
    subst ec
    refine WS_cut (fun ρ S' => S' = S ∧ ρ = SE (a ++ (Sg.qt q).txt ++ b) a.length (some (.p (ch 34))) none none none) ?_ ?_
    · simp -implicitDefEqProofs only [DL.wpW, reduceIte, Nat.reduceAdd, Nat.reduceLeDiff, DL.sFor_ap, inC, decide_eq_false q_nl.1]
      try exact ⟨by trivial, by trivial⟩
    rintro ρ S' ⟨e1, rfl⟩
    rw [e1]
    clear e1 S'
    refine WS_cut (fun ρ S' => S' = S ∧ ρ = SE (a ++ (Sg.qt q).txt ++ b) a.length (some (.p (ch 34))) none none none) ?_ ?_
    · simp -implicitDefEqProofs only [DL.wpW, reduceIte, Nat.reduceAdd, Nat.reduceLeDiff, DL.sFor_ap, inC, decide_eq_false q_nl.2]
      try exact ⟨by trivial, by trivial⟩
    rintro ρ S' ⟨e1, rfl⟩
    rw [e1]
    clear e1 S'
    have etx : a ++ (Sg.qt q).txt ++ b = a ++ 34 :: (dbl q ++ 34 :: b) := by
      show a ++ (34 :: (dbl q ++ [34])) ++ b = _
      simp
    have hl2 : (Sg.qt q).txt.length = (dbl q).length + 2 := by
      show (34 :: (dbl q ++ [34])).length = _
      simp
    have s0 := sl 1 ((dbl q).length + 1) (by omega) (by omega)
    rw [show ((Sg.qt q).txt.take ((dbl q).length + 1)).drop 1 = dbl q by
      show ((34 :: (dbl q ++ [34])).take ((dbl q).length + 1)).drop 1 = _
      rw [List.take_succ_cons, List.drop_succ_cons, List.drop_zero, List.take_left]] at s0
    refine WS_cut (fun _ _ => False) ?_ (fun _ _ z => z.elim)
    have b1 : ((⟨#[34]⟩ : Str) == Str.ofString "\"") = true := by rw [ch_eq qtS]; rfl
    have rp : (dbl q).length + ((dbl q).length + 1) * (Str.ofString "\"").length ≤ 16777216 := by
      rw [qtS]
      show (dbl q).length + ((dbl q).length + 1) * 1 ≤ _
      have : (a ++ (Sg.qt q).txt ++ b).length = a.length + (Sg.qt q).txt.length + b.length := by simp [Nat.add_assoc]
      omega
    simp -implicitDefEqProofs only [DL.wpW, reduceIte, Nat.reduceAdd, Nat.reduceLeDiff, DL.sFor_ap, b1, eCallX]
    rw [etx]
    refine quoted_wp (q := q) (B := 34 :: b) (by rw [← etx]; exact ht) (.inr ⟨b, rfl, hb⟩) hc (fun _ => ?_) (fun z => by cases z)
    rw [← etx]
    have er : eRepl (eSl (eVar 0) (oSome (eBin gAdd (eVar 1) (eC (.int 1)))) (oSome (eBin DL.gSub (eVar 4) (eC (.int 1))))) "\"\"" "\"" (SE (a ++ (Sg.qt q).txt ++ b) a.length (some (.p (ch 34))) (some (.int ((a.length + 2 + (dbl q).length : Nat) : Int))) none none) S = .ok (.p (.str (sx q))) S := by
      have e1 : eSl (eVar 0) (oSome (eBin gAdd (eVar 1) (eC (.int 1)))) (oSome (eBin DL.gSub (eVar 4) (eC (.int 1)))) (SE (a ++ (Sg.qt q).txt ++ b) a.length (some (.p (ch 34))) (some (.int ((a.length + 2 + (dbl q).length : Nat) : Int))) none none) S = gSl (.p (.str (sx (a ++ (Sg.qt q).txt ++ b)))) (some ((a.length : Int) + 1)) (some (((a.length + 2 + (dbl q).length : Nat) : Int) - 1)) S := rfl
      unfold eRepl
      rw [e1, show ((a.length : Int) + 1) = ((a.length + 1 : Nat) : Int) from rfl, show ((a.length + 2 + (dbl q).length : Nat) : Int) - 1 = ((a.length + ((dbl q).length + 1) : Nat) : Int) by omega, s0]
      show (if (sx (dbl q)).length + ((sx (dbl q)).length + 1) * _ ≤ 16777216 then _ else _) = _
      rw [sx_len, if_pos rp, repl_undbl]
    simp -implicitDefEqProofs only [DL.wpW, reduceIte, Nat.reduceAdd, Nat.reduceLeDiff, DL.sFor_ap, er]
    refine ⟨?_, trivial⟩
    rw [hl2, show a.length + 2 + (dbl q).length = a.length + ((dbl q).length + 2) by omega]
    rfl
  | sy d =>
    have ec : c = d := by
      have : (c :: r) = [d] := by rw [← htx]; rfl
      cases this; rfl
    subst ec
    obtain ⟨n1, n2, n3⟩ := sy_n c hs
    have hcs : c ∈ SY.cps.toList := hs
    have b1 : ((⟨#[c]⟩ : Str) == Str.ofString "\"") = false := by rw [ch_eq qtS]; exact decide_eq_false n3
    refine WS_cut (fun ρ S' => S' = S ∧ ρ = SE (a ++ (Sg.sy c).txt ++ b) a.length (some (.p (ch c))) none none none) ?_ ?_
    · simp -implicitDefEqProofs only [DL.wpW, reduceIte, Nat.reduceAdd, Nat.reduceLeDiff, DL.sFor_ap, inC, decide_eq_false n1]
      try exact ⟨by trivial, by trivial⟩
    rintro ρ S' ⟨e1, rfl⟩
    rw [e1]
    clear e1 S'
    refine WS_cut (fun ρ S' => S' = S ∧ ρ = SE (a ++ (Sg.sy c).txt ++ b) a.length (some (.p (ch c))) none none none) ?_ ?_
    · simp -implicitDefEqProofs only [DL.wpW, reduceIte, Nat.reduceAdd, Nat.reduceLeDiff, DL.sFor_ap, inC, decide_eq_false n2]
      try exact ⟨by trivial, by trivial⟩
    rintro ρ S' ⟨e1, rfl⟩
    rw [e1]
    clear e1 S'
    refine WS_cut (fun ρ S' => S' = S ∧ ρ = SE (a ++ (Sg.sy c).txt ++ b) a.length (some (.p (ch c))) none none none) ?_ ?_
    · simp -implicitDefEqProofs only [DL.wpW, reduceIte, Nat.reduceAdd, Nat.reduceLeDiff, DL.sFor_ap, b1]
      try exact ⟨by trivial, by trivial⟩
    rintro ρ S' ⟨e1, rfl⟩
    rw [e1]
    clear e1 S'
    refine WS_cut (fun _ _ => False) ?_ (fun _ _ z => z.elim)
    simp -implicitDefEqProofs only [DL.wpW, reduceIte, Nat.reduceAdd, Nat.reduceLeDiff, DL.sFor_ap, inC, decide_eq_true hcs]
    exact ⟨rfl, trivial⟩
end
end My
namespace My
open PySem PySem.Spec PyProof.Rows L2 DL
inductive Bd
  | ch (c : Nat)
  | wd (w : List Nat)
  | nm (w : List Nat)
  | qt (q : List Nat)
def Bd.txt : Bd → List Nat
  | .ch c => [c]
  | .wd w => w
  | .nm w => w
  | .qt q => 34 :: (dbl q ++ [])
def Bd.off : Bd → Nat
  | .ch _ => 0
  | .wd _ => 20
  | .nm _ => 9
  | .qt q => (Bd.qt q).txt.length
def Bd.rs : Bd → Str
  | .ch _ => "unexpected character"
  | .wd _ => "name too long"
  | .nm _ => "number too long"
  | .qt _ => "quoted text without an end"
def Bd.ok : Bd → Prop
  | .ch c => c ∉ LT.cps.toList ∧ c ∉ DG.cps.toList ∧ c ≠ 34 ∧ c ∉ SY.cps.toList ∧ c ≠ 32 ∧ c ≠ 10
  | .wd w => (∃ c r, w = c :: r ∧ c ∈ LT.cps.toList) ∧ (∀ x ∈ w, x ∈ IN.cps.toList) ∧ 21 ≤ w.length
  | .nm w => (∀ x ∈ w, x ∈ DG.cps.toList) ∧ 10 ≤ w.length
  | .qt _ => True
theorem spS : (Str.ofString " \n").cps.toList = [32, 10] := by decide +kernel
theorem lt_sp : ∀ c ∈ LT.cps.toList, c ∉ (Str.ofString " \n").cps.toList := by decide +kernel
theorem dg_sp : ∀ c ∈ DG.cps.toList, c ∉ (Str.ofString " \n").cps.toList := by decide +kernel
theorem sy_sp : ∀ c ∈ SY.cps.toList, c ∉ (Str.ofString " \n").cps.toList := by decide +kernel
theorem q_sp : 34 ∉ (Str.ofString " \n").cps.toList := by decide +kernel
theorem Sg.head {s : Sg} (h : s.ok) : ∃ c r, s.txt = c :: r ∧ c ∉ (Str.ofString " \n").cps.toList := by
  cases s with
  | wd w => obtain ⟨⟨c, r, e, h1⟩, _⟩ := h; exact ⟨c, r, e, lt_sp c h1⟩
  | nm w => cases w with
    | nil => exact absurd rfl h.1
    | cons c r => exact ⟨c, r, rfl, dg_sp c (h.2.1 c List.mem_cons_self)⟩
  | qt q => exact ⟨_, _, rfl, q_sp⟩
  | sy c => exact ⟨_, _, rfl, sy_sp c h⟩
theorem Bd.head {s : Bd} (h : s.ok) : ∃ c r, s.txt = c :: r ∧ c ∉ (Str.ofString " \n").cps.toList := by
  cases s with
  | ch c =>
    obtain ⟨_, _, _, _, h5, h6⟩ := h
    refine ⟨_, _, rfl, ?_⟩
    rw [spS]
    simp [h5, h6]
  | wd w => obtain ⟨⟨c, r, e, h1⟩, _⟩ := h; exact ⟨c, r, e, lt_sp c h1⟩
  | nm w => cases w with
    | nil => exact absurd h.2 (by decide)
    | cons c r => exact ⟨c, r, rfl, dg_sp c (h.1 c List.mem_cons_self)⟩
  | qt q => exact ⟨_, _, rfl, q_sp⟩
section
variable {S : Sto} {Q : D → Sto → Prop} {E : Xc → Sto → Prop} {a w b q : List Nat}
theorem bad_wp {s : Bd} (hs : s.ok) (ht : (a ++ s.txt).length < 100000) (hc : ClB S)
    (qx : E (flt (aft 1 1 (a ++ s.txt.take s.off)) s.rs) S) : WE (G_sign_at [.p (.str (sx (a ++ s.txt))), .int (a.length : Nat), .p (.list (posP (a ++ s.txt)))] S) Q E := by
  refine WE_defX (fun d S' => False) (fun x S' => x = flt (aft 1 1 (a ++ s.txt.take s.off)) s.rs ∧ S' = S) ?_ (fun _ _ z => z.elim) (fun x S' ⟨e1, e2⟩ => ⟨S, [], by rw [e2, List.append_nil], rfl, hc, by rw [e1]; exact qx⟩)
  rw [show start0 NN_sign_at [.p (.str (sx (a ++ s.txt))), .int (a.length : Nat), .p (.list (posP (a ++ s.txt)))] = SE (a ++ s.txt) a.length none none none none from rfl]
  unfold B_sign_at
  have hlt : (a ++ s.txt).length ≤ 16777216 := by omega
  obtain ⟨c, r, htx, _⟩ := Bd.head hs
  have g1 : gIx (.p (.str (sx (a ++ s.txt)))) (.int (a.length : Nat)) S = .ok (.p (ch c)) S := gIx_sx hlt (by
    rw [htx, List.getElem?_append_right (Nat.le_refl _), Nat.sub_self]
    rfl)
  refine WS_cut (fun ρ S' => S' = S ∧ ρ = SE (a ++ s.txt) a.length (some (.p (ch c))) none none none) ?_ ?_
  · simp -implicitDefEqProofs only [DL.wpW, reduceIte, Nat.reduceAdd, Nat.reduceLeDiff, DL.sFor_ap, g1]
    all_goals exact ⟨by trivial, by trivial⟩
  rintro ρ S' ⟨e1, rfl⟩
  rw [e1]
  clear e1 S'
  cases s with
  | wd w =>
    obtain ⟨⟨c', r', e, hcl⟩, hin, hlen⟩ := hs
    have ec : c = c' := by
      have : (c :: r) = c' :: r' := by rw [← htx, ← e]; rfl
      cases this; rfl
    subst ec
    refine WS_cut (fun _ _ => False) ?_ (fun _ _ z => z.elim)
    have et : a ++ (Bd.wd w).txt = a ++ w.take 21 ++ w.drop 21 := by
      rw [List.append_assoc, List.take_append_drop]; rfl
    have hl : (w.take 21).length = 21 := by rw [List.length_take]; omega
    simp -implicitDefEqProofs only [DL.wpW, reduceIte, Nat.reduceAdd, Nat.reduceLeDiff, DL.sFor_ap, inC, decide_eq_true hcl, eCallX]
    rw [et]
    refine run_wp (w := w.take 21) (n := 20) (by rw [← et]; exact ht) (by decide +kernel) (fun x hx => hin x (List.mem_of_mem_take hx)) (by omega) (fun z => by omega) hc (fun z => by omega) (fun _ => ?_)
    rw [List.take_take]
    exact ⟨rfl, rfl⟩
  | nm w =>
    obtain ⟨hin, hlen⟩ := hs
    have hcd : c ∈ DG.cps.toList := hin c (by rw [show w = c :: r from htx]; exact List.mem_cons_self)
    have hcl := dg_nl c hcd
    refine WS_cut (fun ρ S' => S' = S ∧ ρ = SE (a ++ (Bd.nm w).txt) a.length (some (.p (ch c))) none none none) ?_ ?_
    · simp -implicitDefEqProofs only [DL.wpW, reduceIte, Nat.reduceAdd, Nat.reduceLeDiff, DL.sFor_ap, inC, decide_eq_false hcl]
      try exact ⟨by trivial, by trivial⟩
    rintro ρ S' ⟨e1, rfl⟩
    rw [e1]
    clear e1 S'
    refine WS_cut (fun _ _ => False) ?_ (fun _ _ z => z.elim)
    have et : a ++ (Bd.nm w).txt = a ++ w.take 10 ++ w.drop 10 := by
      rw [List.append_assoc, List.take_append_drop]; rfl
    have hl : (w.take 10).length = 10 := by rw [List.length_take]; omega
    simp -implicitDefEqProofs only [DL.wpW, reduceIte, Nat.reduceAdd, Nat.reduceLeDiff, DL.sFor_ap, inC, decide_eq_true hcd, eCallX]
    rw [et]
    refine run_wp (w := w.take 10) (n := 9) (by rw [← et]; exact ht) (by decide +kernel) (fun x hx => hin x (List.mem_of_mem_take hx)) (by omega) (fun z => by omega) hc (fun z => by omega) (fun _ => ?_)
    rw [List.take_take]
    exact ⟨rfl, rfl⟩
  | qt q =>
    have ec : c = 34 := by
      have : (c :: r) = 34 :: (dbl q ++ []) := by rw [← htx]; rfl
      cases this; rfl
    subst ec
    refine WS_cut (fun ρ S' => S' = S ∧ ρ = SE (a ++ (Bd.qt q).txt) a.length (some (.p (ch 34))) none none none) ?_ ?_
    · simp -implicitDefEqProofs only [DL.wpW, reduceIte, Nat.reduceAdd, Nat.reduceLeDiff, DL.sFor_ap, inC, decide_eq_false q_nl.1]
      try exact ⟨by trivial, by trivial⟩
    rintro ρ S' ⟨e1, rfl⟩
    rw [e1]
    clear e1 S'
    refine WS_cut (fun ρ S' => S' = S ∧ ρ = SE (a ++ (Bd.qt q).txt) a.length (some (.p (ch 34))) none none none) ?_ ?_
    · simp -implicitDefEqProofs only [DL.wpW, reduceIte, Nat.reduceAdd, Nat.reduceLeDiff, DL.sFor_ap, inC, decide_eq_false q_nl.2]
      try exact ⟨by trivial, by trivial⟩
    rintro ρ S' ⟨e1, rfl⟩
    rw [e1]
    clear e1 S'
    refine WS_cut (fun _ _ => False) ?_ (fun _ _ z => z.elim)
    have b1 : ((⟨#[34]⟩ : Str) == Str.ofString "\"") = true := by rw [ch_eq qtS]; rfl
    simp -implicitDefEqProofs only [DL.wpW, reduceIte, Nat.reduceAdd, Nat.reduceLeDiff, DL.sFor_ap, b1, eCallX]
    refine quoted_wp (q := q) (B := []) ht (.inl rfl) hc (fun z => absurd rfl z) (fun _ => ?_)
    rw [show (Bd.qt q).txt.take (Bd.qt q).off = (Bd.qt q).txt from List.take_length]
    exact ⟨rfl, rfl⟩
  | ch d =>
    have ec : c = d := by
      have : (c :: r) = [d] := by rw [← htx]; rfl
      cases this; rfl
    subst ec
    obtain ⟨n1, n2, n3, n4, _⟩ := hs
    have b1 : ((⟨#[c]⟩ : Str) == Str.ofString "\"") = false := by rw [ch_eq qtS]; exact decide_eq_false n3
    refine WS_cut (fun ρ S' => S' = S ∧ ρ = SE (a ++ (Bd.ch c).txt) a.length (some (.p (ch c))) none none none) ?_ ?_
    · simp -implicitDefEqProofs only [DL.wpW, reduceIte, Nat.reduceAdd, Nat.reduceLeDiff, DL.sFor_ap, inC, decide_eq_false n1]
      try exact ⟨by trivial, by trivial⟩
    rintro ρ S' ⟨e1, rfl⟩
    rw [e1]
    clear e1 S'
    refine WS_cut (fun ρ S' => S' = S ∧ ρ = SE (a ++ (Bd.ch c).txt) a.length (some (.p (ch c))) none none none) ?_ ?_
    · simp -implicitDefEqProofs only [DL.wpW, reduceIte, Nat.reduceAdd, Nat.reduceLeDiff, DL.sFor_ap, inC, decide_eq_false n2]
      try exact ⟨by trivial, by trivial⟩
    rintro ρ S' ⟨e1, rfl⟩
    rw [e1]
    clear e1 S'
    refine WS_cut (fun ρ S' => S' = S ∧ ρ = SE (a ++ (Bd.ch c).txt) a.length (some (.p (ch c))) none none none) ?_ ?_
    · simp -implicitDefEqProofs only [DL.wpW, reduceIte, Nat.reduceAdd, Nat.reduceLeDiff, DL.sFor_ap, b1]
      try exact ⟨by trivial, by trivial⟩
    rintro ρ S' ⟨e1, rfl⟩
    rw [e1]
    clear e1 S'
    refine WS_cut (fun ρ S' => S' = S ∧ ρ = SE (a ++ (Bd.ch c).txt) a.length (some (.p (ch c))) none none none) ?_ ?_
    · simp -implicitDefEqProofs only [DL.wpW, reduceIte, Nat.reduceAdd, Nat.reduceLeDiff, DL.sFor_ap, inC, decide_eq_false n4]
      try exact ⟨by trivial, by trivial⟩
    rintro ρ S' ⟨e1, rfl⟩
    rw [e1]
    clear e1 S'
    have gp := posP_at (t := a ++ (Bd.ch c).txt) (k := a.length) (by rw [List.length_append]; omega)
    rw [List.take_left] at gp
    have hb1 := aft_le a 1 1
    have hl1 : a.length < 100000 := by rw [List.length_append] at ht; omega
    generalize a ++ (Bd.ch c).txt = t at gp
    have g2 : ∀ (p : Nat × Nat) (v3 v4 v5 v6 : Option D) (S : Sto), gTupD 2 (gsCons (gNm 5) (gsCons (gNm 6) gsNil)) (.p (plc p)) (SE t a.length v3 v4 v5 v6) S = .ok (SE t a.length v3 v4 (some (.int (p.1 : Nat))) (some (.int (p.2 : Nat)))) S := fun _ _ _ _ _ _ => rfl
    have fo := fun v3 v4 => fault_ok (p := aft 1 1 a) (r := "unexpected character") (ga := aCons (eVar 5) (aCons (eVar 6) (aCons (eC (.str "unexpected character")) aNil))) (ρ := SE t a.length v3 v4 (some (.int ((aft 1 1 a).1 : Nat))) (some (.int ((aft 1 1 a).2 : Nat)))) (S := S) (by omega) (by omega) (by decide +kernel) rfl
    simp -implicitDefEqProofs only [DL.wpW, reduceIte, Nat.reduceAdd, Nat.reduceLeDiff, DL.sFor_ap, gp, Option.map_some, g2, fo]
    show flt (aft 1 1 a) _ = flt (aft 1 1 (a ++ [])) _ ∧ _
    rw [List.append_nil]
    exact ⟨rfl, rfl⟩
end
end My
namespace My
open PySem PySem.Spec PyProof.Rows L2 DL
inductive Lx (fin : Option Bd) : List Nat → List Nat → List (Sg × (Nat × Nat)) → Prop
  | done (a : List Nat) (h : fin = none) : Lx fin a [] []
  | bad (a : List Nat) (s : Bd) (h : fin = some s) (hs : s.ok) : Lx fin a s.txt []
  | gap (a : List Nat) (c : Nat) (r : List Nat) (ts : List (Sg × (Nat × Nat))) (h : c ∈ (Str.ofString " \n").cps.toList) (l : Lx fin (a ++ [c]) r ts) : Lx fin a (c :: r) ts
  | tok (a : List Nat) (s : Sg) (r : List Nat) (ts : List (Sg × (Nat × Nat))) (hs : s.ok) (hb : ∀ c, r[0]? = some c → s.stop c) (l : Lx fin (a ++ s.txt) r ts) : Lx fin a (s.txt ++ r) ((s, aft 1 1 a) :: ts)
def tkP (x : Sg × (Nat × Nat)) : PyData := .tuple [x.1.kd, x.1.val, .int x.2.1, .int x.2.2]
def endP (p : Nat × Nat) : PyData := .tuple [.str "end", .str "", .int p.1, .int p.2]
def fltAt (t : List Nat) (s : Bd) : Nat × Nat := aft 1 1 (t.take (t.length - s.txt.length) ++ s.txt.take s.off)
section
variable {S : Sto} {Q : D → Sto → Prop} {E : Xc → Sto → Prop} {t : List Nat} {ts : List (Sg × (Nat × Nat))} {fin : Option Bd}
abbrev PE (t : List Nat) (n : Nat) (v3 v4 v5 v6 v7 v8 : Option D) : DL.Env := [some (.p (.str (sx t))), some (.p (.list (posP t))), some (.ob n), v3, v4, v5, v6, v7, v8]
theorem split_wp (ht : t.length < 100000) (hx : Lx fin [] t ts) (hc : ClB S) (qq : fin = none → Q (.p (.list (ts.map tkP ++ [endP (aft 1 1 t)]))) S) (qx : ∀ s, fin = some s → E (flt (fltAt t s) s.rs) S) :
    WE (G_split [.p (.str (sx t))] S) Q E := by
  refine WE_defX (fun d S' => fin = none ∧ d = .p (.list (ts.map tkP ++ [endP (aft 1 1 t)])) ∧ ∃ T, S' = S ++ T) (fun x S' => ∃ s, fin = some s ∧ x = flt (fltAt t s) s.rs ∧ ∃ T, S' = S ++ T) ?_ (fun d S' ⟨h, e1, T, e2⟩ => ⟨_, S, T, e1, e2, rfl, hc, qq h⟩) (fun x S' ⟨s, h, e1, T, e2⟩ => ⟨S, T, e2, rfl, hc, by rw [e1]; exact qx s h⟩)
  rw [show start0 NN_split [.p (.str (sx t))] = [some (.p (.str (sx t))), none, none, none, none, none, none, none, none] from rfl]
  unfold B_split
  have hlt : t.length ≤ 16777216 := by omega
  refine WS_cut (fun ρ S' => S' = S ∧ ρ = [some (.p (.str (sx t))), some (.p (.list (posP t))), none, none, none, none, none, none, none]) ?_ ?_
  · simp -implicitDefEqProofs only [DL.wpW, reduceIte, Nat.reduceAdd, Nat.reduceLeDiff, DL.sFor_ap]
    refine find_wp ht hc ?_
    simp -implicitDefEqProofs only [DL.wpW, reduceIte, Nat.reduceAdd, Nat.reduceLeDiff, DL.sFor_ap]
    all_goals exact ⟨by trivial, by trivial⟩
  rintro ρ S' ⟨e1, rfl⟩
  rw [e1]
  clear e1 S'
  refine WS_cut (fun ρ S' => S' = S ++ [dL []] ∧ ρ = PE t S.length none none none none none none) ?_ ?_
  · simp -implicitDefEqProofs only [DL.wpW, reduceIte, Nat.reduceAdd, Nat.reduceLeDiff, DL.sFor_ap]
    all_goals exact ⟨by trivial, by trivial⟩
  rintro ρ S' ⟨rfl, rfl⟩
  refine WS_cut (fun ρ S' => S' = S ++ [dL []] ∧ ρ = PE t S.length (some (.int ((0 : Nat) : Int))) none none none none none) ?_ ?_
  · simp -implicitDefEqProofs only [DL.wpW, reduceIte, Nat.reduceAdd, Nat.reduceLeDiff, DL.sFor_ap]
    all_goals exact ⟨by trivial, by trivial⟩
  rintro ρ S' ⟨rfl, rfl⟩
  refine WS_cut (fun ρ S' => fin = none ∧ ts.length ≤ t.length ∧ S' = S ++ [dL (ts.map tkP)] ∧ ∃ v4 v5 v6 v7 v8, ρ = PE t S.length (some (.int (t.length : Nat))) v4 v5 v6 v7 v8) ?_ ?_
  · rw [sWhile_ap]
    refine WS_while (fun k ρ S' => ∃ a r done todo v4 v5 v6 v7 v8, t = a ++ r ∧ Lx fin a r todo ∧ ts = done ++ todo ∧ done.length ≤ a.length ∧ k = r.length ∧ S' = S ++ [dL (done.map tkP)] ∧ ρ = PE t S.length (some (.int (a.length : Nat))) v4 v5 v6 v7 v8) ?_ 100000 t.length _ _ ht ⟨[], t, [], ts, none, none, none, none, none, rfl, hx, rfl, Nat.le_refl _, rfl, rfl, rfl⟩
    rintro k ρ S' ⟨a, r, done, todo, v4, v5, v6, v7, v8, et, hl, ets, hdn, rfl, rfl, rfl⟩
    have hT : t.length = a.length + r.length := by rw [et, List.length_append]
    have gg : ∀ c r', r = c :: r' → gIx (.p (.str (sx t))) (.int (a.length : Nat)) (S ++ [dL (done.map tkP)]) = .ok (.p (ch c)) (S ++ [dL (done.map tkP)]) := fun c r' e => gIx_sx hlt (by
      rw [et, e, List.getElem?_append_right (Nat.le_refl _), Nat.sub_self]
      rfl)
    cases hl with
    | done _ h =>
      have lt : (((a.length : Nat) : Int) < (t.length : Int)) = False := eq_false (by rw [hT]; simp)
      have ea : a.length = t.length := by rw [hT]; rfl
      have ed : ts = done := by rw [ets, List.append_nil]
      simp -implicitDefEqProofs only [DL.wpW, reduceIte, Nat.reduceAdd, Nat.reduceLeDiff, DL.sFor_ap, gLen_sx hlt, lt, decide_false]
      exact ⟨h, by rw [ed]; omega, by rw [ed], _, _, _, _, _, by rw [ea]⟩
    | bad _ s h hs =>
      obtain ⟨c, r', e, hsp⟩ := Bd.head hs
      have lt : (((a.length : Nat) : Int) < (t.length : Int)) = True := eq_true (by rw [hT, e, List.length_cons]; omega)
      have gc := gg c r' e
      simp -implicitDefEqProofs only [DL.wpW, reduceIte, Nat.reduceAdd, Nat.reduceLeDiff, DL.sFor_ap, gLen_sx hlt, lt, decide_true, gc, inC, decide_eq_false hsp]
      subst et
      refine bad_wp hs ht (clB_app hc (clS_one clO_p)) ?_
      refine ⟨s, h, ?_, _, rfl⟩
      unfold fltAt
      rw [List.length_append, Nat.add_sub_cancel, List.take_left]
    | gap _ c r' ts' h l =>
      have lt : (((a.length : Nat) : Int) < (t.length : Int)) = True := eq_true (by rw [hT, List.length_cons]; omega)
      have gc := gg c r' rfl
      simp -implicitDefEqProofs only [DL.wpW, reduceIte, Nat.reduceAdd, Nat.reduceLeDiff, DL.sFor_ap, gLen_sx hlt, lt, decide_true, gc, inC, decide_eq_true h]
      exact ⟨r'.length, by simp, a ++ [c], r', done, todo, v4, v5, v6, v7, v8, by rw [et]; simp, l, ets, by rw [List.length_append]; omega, rfl, rfl, by rw [List.length_append]; rfl⟩
    | tok _ s r' ts' hs hb l =>
      obtain ⟨c, r2, e, hsp⟩ := Sg.head hs
      have lt : (((a.length : Nat) : Int) < (t.length : Int)) = True := eq_true (by rw [hT, List.length_append, e, List.length_cons]; omega)
      have gc := gg c (r2 ++ r') (by rw [e]; rfl)
      have gp := posP_at (t := t) (k := a.length) (by omega)
      rw [show t.take a.length = a by rw [et, List.take_left]] at gp
      have hL : (done.map tkP).length < 16777216 := by rw [List.length_map]; omega
      have et2 : t = a ++ s.txt ++ r' := by rw [et, List.append_assoc]
      simp -implicitDefEqProofs only [DL.wpW, reduceIte, Nat.reduceAdd, Nat.reduceLeDiff, DL.sFor_ap, gLen_sx hlt, lt, decide_true, gc, inC, decide_eq_false hsp]
      rw [et2]
      refine sign_wp hs (by rw [← et2]; exact ht) hb (clB_app hc (clS_one clO_p)) ?_
      rw [← et2]
      have g3 : ∀ (v6 v7 v8 : Option D) (S' : Sto), gTupD 3 (gsCons (gNm 6) (gsCons (gNm 7) (gsCons (gNm 8) gsNil))) (.p (.tuple [s.kd, s.val, .int ((a.length + s.txt.length : Nat) : Int)])) (PE t S.length (some (.int (a.length : Nat))) v4 v5 v6 v7 v8) S' = .ok (PE t S.length (some (.int (a.length : Nat))) v4 v5 (some (.p s.kd)) (some (.p s.val)) (some (.int ((a.length + s.txt.length : Nat) : Int)))) S' := fun _ _ _ _ => rfl
      have g2 : ∀ (p : Nat × Nat) (v4 v5 v6 v7 v8 : Option D) (S' : Sto), gTupD 2 (gsCons (gNm 4) (gsCons (gNm 5) gsNil)) (.p (plc p)) (PE t S.length (some (.int (a.length : Nat))) v4 v5 v6 v7 v8) S' = .ok (PE t S.length (some (.int (a.length : Nat))) (some (.int (p.1 : Nat))) (some (.int (p.2 : Nat))) v6 v7 v8) S' := fun _ _ _ _ _ _ _ => rfl
      simp -implicitDefEqProofs only [DL.wpW, reduceIte, Nat.reduceAdd, Nat.reduceLeDiff, DL.sFor_ap, g3, gp, Option.map_some, g2, dl_at]
      rw [List.length_map, if_pos hL, dL_snoc, dl_set]
      have hne : 0 < s.txt.length := by rw [e]; simp
      refine ⟨r'.length, by rw [List.length_append]; omega, a ++ s.txt, r', done ++ [(s, aft 1 1 a)], ts', some (.int ((aft 1 1 a).1 : Nat)), some (.int ((aft 1 1 a).2 : Nat)), some (.p s.kd), some (.p s.val), some (.int ((a.length + s.txt.length : Nat) : Int)), et2, l, by rw [ets]; simp, ?_, rfl, by rw [List.map_append]; rfl, by rw [List.length_append]⟩
      rw [List.length_append, List.length_append]
      simp only [List.length_cons, List.length_nil]
      omega
  rintro ρ S' ⟨hf, htl, rfl, v4, v5, v6, v7, v8, rfl⟩
  have gp := posP_at (t := t) (k := t.length) (Nat.le_refl _)
  rw [List.take_length] at gp
  have hL : (ts.map tkP).length < 16777216 := by rw [List.length_map]; omega
  have g2 : ∀ (p : Nat × Nat) (v3 v4 v5 v6 v7 v8 : Option D) (S' : Sto), gTupD 2 (gsCons (gNm 4) (gsCons (gNm 5) gsNil)) (.p (plc p)) (PE t S.length v3 v4 v5 v6 v7 v8) S' = .ok (PE t S.length v3 (some (.int (p.1 : Nat))) (some (.int (p.2 : Nat))) v6 v7 v8) S' := fun _ _ _ _ _ _ _ _ => rfl
  simp -implicitDefEqProofs only [DL.wpW, reduceIte, Nat.reduceAdd, Nat.reduceLeDiff, DL.sFor_ap, gLen_sx hlt, gp, Option.map_some, g2, dl_at]
  rw [List.length_map, if_pos hL, dL_snoc, dl_set, rest_top]
  simp -implicitDefEqProofs only [DL.wpW, reduceIte, Nat.reduceAdd, Nat.reduceLeDiff, DL.sFor_ap]
  exact ⟨hf, rfl, _, rfl⟩
end
end My
namespace My
open PySem PySem.Spec PyProof.Rows L2 DL
theorem sx_self (z : Str) : z = sx z.cps.toList := by
  cases z with
  | mk cps => rfl
theorem sx_app (a b : List Nat) : sx a ++ sx b = sx (a ++ b) := by
  have : sx a ++ sx b = ⟨(sx a).cps ++ (sx b).cps⟩ := rfl
  rw [this]
  simp [SX.S]
theorem gAdd_sx {a b : List Nat} {S : Sto} (h : a.length + b.length ≤ 16777216) : gAdd (.p (.str (sx a))) (.p (.str (sx b))) S = .ok (.p (.str (sx (a ++ b)))) S := by
  unfold gAdd
  simp only [sx_len, sizeLine_val, sx_app]
  rw [if_pos h]
theorem gIx_lit {z : Str} {v : Int} {S : Sto} (h0 : 0 ≤ v) (h1 : v < (z.length : Nat)) (hz : z.length ≤ 1000) : ∃ c, c ∈ z.cps.toList ∧ gIx (.p (.str z)) (.p (.int v)) S = .ok (.p (.str (sx [c]))) S := by
  obtain ⟨v, rfl⟩ := Int.eq_ofNat_of_zero_le h0
  have hl : z.cps.toList.length = z.length := by simp [Str.length]
  have e : z.cps.toList[v]? = some z.cps.toList[v] := List.getElem?_eq_getElem (by omega)
  refine ⟨_, List.mem_of_getElem? e, ?_⟩
  have := gIx_sx (t := z.cps.toList) (S := S) (by omega) e
  rw [← sx_self] at this
  exact this
theorem gIx_l {l : List PyData} {v : Int} {S : Sto} (h0 : 0 ≤ v) (h1 : v < (l.length : Nat)) : ∃ d, d ∈ l ∧ gIx (.p (.list l)) (.p (.int v)) S = .ok (.p d) S := by
  obtain ⟨v, rfl⟩ := Int.eq_ofNat_of_zero_le h0
  have e : l[v]? = some l[v] := List.getElem?_eq_getElem (by omega)
  refine ⟨_, List.mem_of_getElem? e, ?_⟩
  have e1 : lItems S (.p (.list l)) = some (l.map D.p) := rfl
  unfold gIx
  simp only [e1, atI_map, atI_nat e]
  rfl
theorem rngL_len {lo : Int} {n : Nat} : (rngL lo n).length = n := by
  unfold rngL
  rw [List.length_map, List.length_range]
section
variable {S : Sto} {n : Nat} {b : O} {Q : D → Sto → Prop} {E : Xc → Sto → Prop}
abbrev AE (l c : Nat) (t : List Nat) (v2 v3 v4 : Option D) : DL.Env := [some (.p (.list [.int l, .int c])), some (.p (.str (sx t))), v2, v3, v4]
theorem after_wp {l c : Nat} {t : List Nat} (hc : ClB S) (q : Q (.p (.list [.int ((aft l c t).1 : Nat), .int ((aft l c t).2 : Nat)])) S) : WE (G_law_after [.p (.list [.int l, .int c]), .p (.str (sx t))] S) Q E := by
  refine WE_defB (fun d S' => d = .p (.list [.int ((aft l c t).1 : Nat), .int ((aft l c t).2 : Nat)]) ∧ S' = S) ?_ (fun d S' ⟨e1, e2⟩ => ⟨_, S, [], e1, by rw [e2, List.append_nil], rfl, hc, q⟩)
  rw [show start0 NN_law_after [.p (.list [.int l, .int c]), .p (.str (sx t))] = AE l c t none none none from rfl]
  unfold B_law_after
  have i0 : ∀ S : Sto, gIx (.p (.list [.int l, .int c])) (.p (.int 0)) S = .ok (.p (.int l)) S := fun _ => rfl
  have i1 : ∀ S : Sto, gIx (.p (.list [.int l, .int c])) (.p (.int 1)) S = .ok (.p (.int c)) S := fun _ => rfl
  refine WS_cut (fun ρ S' => S' = S ∧ ρ = AE l c t (some (.int (l : Nat))) none none) ?_ ?_
  · simp -implicitDefEqProofs only [DL.wpW, reduceIte, Nat.reduceAdd, Nat.reduceLeDiff, DL.sFor_ap, i0]
    all_goals exact ⟨by trivial, by trivial⟩
  rintro ρ S' ⟨e1, rfl⟩
  rw [e1]
  clear e1 S'
  refine WS_cut (fun ρ S' => S' = S ∧ ρ = AE l c t (some (.int (l : Nat))) (some (.int (c : Nat))) none) ?_ ?_
  · simp -implicitDefEqProofs only [DL.wpW, reduceIte, Nat.reduceAdd, Nat.reduceLeDiff, DL.sFor_ap, i1]
    all_goals exact ⟨by trivial, by trivial⟩
  rintro ρ S' ⟨e1, rfl⟩
  rw [e1]
  clear e1 S'
  refine WS_cut (fun ρ S' => S' = S ∧ ∃ v4, ρ = AE l c t (some (.int ((aft l c t).1 : Nat))) (some (.int ((aft l c t).2 : Nat))) v4) ?_ ?_
  · simp -implicitDefEqProofs only [DL.wpW, reduceIte, Nat.reduceAdd, Nat.reduceLeDiff, DL.sFor_ap, iTxt]
    refine WS_for (fun i ρ S' => S' = S ∧ ∃ v4, ρ = AE l c t (some (.int ((aft l c (t.take i)).1 : Nat))) (some (.int ((aft l c (t.take i)).2 : Nat))) v4) _ 0 _ _ ⟨rfl, none, by rw [List.take_zero]; rfl⟩ ?_ ?_
    · rintro i d ρ S' hd ⟨e1, v4, rfl⟩
      subst e1
      rw [List.getElem?_map] at hd
      cases ec : t[i]? with
      | none => rw [ec] at hd; cases hd
      | some x =>
        rw [ec] at hd
        cases hd
        have htk : t.take (i + 1) = t.take i ++ [x] := by rw [List.take_succ, ec]; rfl
        rw [Nat.zero_add, htk, aft_snoc]
        generalize aft l c (t.take i) = p
        by_cases hn : x = 10
        · have b : ((⟨#[x]⟩ : Str) == Str.ofString "\n") = true := by rw [ch_eq nlS]; exact decide_eq_true hn
          rw [if_pos hn]
          simp -implicitDefEqProofs only [DL.wpW, reduceIte, Nat.reduceAdd, Nat.reduceLeDiff, DL.sFor_ap, b]
          exact ⟨trivial, trivial, _, rfl⟩
        · have b : ((⟨#[x]⟩ : Str) == Str.ofString "\n") = false := by rw [ch_eq nlS]; exact decide_eq_false hn
          rw [if_neg hn]
          simp -implicitDefEqProofs only [DL.wpW, reduceIte, Nat.reduceAdd, Nat.reduceLeDiff, DL.sFor_ap, b]
          exact ⟨trivial, trivial, _, rfl⟩
    · rintro ρ S' ⟨e1, v4, rfl⟩
      subst e1
      rw [List.length_map, Nat.zero_add, List.take_length]
      exact ⟨rfl, v4, rfl⟩
  rintro ρ S' ⟨e1, v4, rfl⟩
  subst e1
  simp -implicitDefEqProofs only [DL.wpW, reduceIte, Nat.reduceAdd, Nat.reduceLeDiff, DL.sFor_ap]
  all_goals exact ⟨by trivial, by trivial⟩
abbrev WE_ (n : Nat) (k : Nat) (v2 v3 v4 : Option D) : DL.Env := [some (.ob n), some (.int (k : Nat)), v2, v3, v4]
theorem hd_in : ∀ c ∈ (Str.ofString "abXZ").cps.toList, c ∈ LT.cps.toList ∧ c ∈ IN.cps.toList := by decide +kernel
theorem tl_in : ∀ c ∈ (Str.ofString "abcXYZ_019").cps.toList, c ∈ IN.cps.toList := by decide +kernel
theorem word_wp {k : Nat} (hk : 1 ≤ k) (hk2 : k ≤ 100) (hs : S[n]? = some b) (hb : IsBox b) (hc : ClB S)
    (q : ∀ b' c r, IsBox b' → c ∈ LT.cps.toList → (∀ x ∈ c :: r, x ∈ IN.cps.toList) → (c :: r).length = k → Q (.p (.str (sx (c :: r)))) (S.set n b')) : WE (G_law_word [.ob n, .int (k : Nat)] S) Q E := by
  have hl : n < S.length := (List.getElem?_eq_some_iff.mp hs).1
  have hsn : ∀ b' : O, (S.set n b')[n]? = some b' := fun b' => List.getElem?_set_self hl
  have hss : ∀ b' b'' : O, (S.set n b').set n b'' = S.set n b'' := fun b' b'' => List.set_set ..
  have hcs' : ∀ {b' : O}, IsBox b' → ClB (S.set n b') := fun h => clB_set hc h.cl
  refine WE_defB (fun d S' => ∃ b' c r, IsBox b' ∧ c ∈ LT.cps.toList ∧ (∀ x ∈ c :: r, x ∈ IN.cps.toList) ∧ (c :: r).length = k ∧ d = .p (.str (sx (c :: r))) ∧ S' = S.set n b') ?_ (fun d S' ⟨b', c, r, h1, h2, h3, h4, e1, e2⟩ => ⟨_, S.set n b', [], e1, by rw [e2, List.append_nil], by simp, hcs' h1, q b' c r h1 h2 h3 h4⟩)
  rw [show start0 NN_law_word [.ob n, .int (k : Nat)] = WE_ n k none none none from rfl]
  unfold B_law_word
  refine WS_cut (fun ρ S' => S' = S ∧ ρ = WE_ n k (some (.p (.str "abcXYZ_019"))) none none) ?_ ?_
  · simp -implicitDefEqProofs only [DL.wpW, reduceIte, Nat.reduceAdd, Nat.reduceLeDiff, DL.sFor_ap]
    all_goals exact ⟨by trivial, by trivial⟩
  rintro ρ S' ⟨e1, rfl⟩
  rw [e1]
  clear e1 S'
  refine WS_cut (fun ρ S' => ∃ b' c, IsBox b' ∧ c ∈ LT.cps.toList ∧ c ∈ IN.cps.toList ∧ S' = S.set n b' ∧ ρ = WE_ n k (some (.p (.str "abcXYZ_019"))) (some (.p (.str (sx [c])))) none) ?_ ?_
  · simp -implicitDefEqProofs only [DL.wpW, reduceIte, Nat.reduceAdd, Nat.reduceLeDiff, DL.sFor_ap]
    refine draw_wp hs hb (by decide) hc fun v b4 h0 h1 hb4 => ?_
    obtain ⟨c, hc1, hc2⟩ := gIx_lit (z := Str.ofString "abXZ") (S := S.set n b4) h0 (by rw [show (Str.ofString "abXZ").length = 4 by decide +kernel]; exact h1) (by decide +kernel)
    simp -implicitDefEqProofs only [DL.wpW, reduceIte, Nat.reduceAdd, Nat.reduceLeDiff, DL.sFor_ap, hc2]
    exact ⟨b4, c, hb4, (hd_in c hc1).1, (hd_in c hc1).2, by trivial, by trivial⟩
  rintro ρ S' ⟨b1, c, hb1, hc1, hc2, rfl, rfl⟩
  refine WS_cut (fun ρ S' => ∃ b' r v4, IsBox b' ∧ (∀ x ∈ c :: r, x ∈ IN.cps.toList) ∧ (c :: r).length = k ∧ S' = S.set n b' ∧ ρ = WE_ n k (some (.p (.str "abcXYZ_019"))) (some (.p (.str (sx (c :: r))))) v4) ?_ ?_
  · have bw : big62 ((k : Int) - 1) = true := by
      rw [show (k : Int) - 1 = ((k - 1 : Nat) : Int) by omega]
      exact big62_nat (by omega)
    have tn : ((k : Int) - 1).toNat = k - 1 := by omega
    simp -implicitDefEqProofs only [DL.wpW, reduceIte, Nat.reduceAdd, Nat.reduceLeDiff, DL.sFor_ap, bw, tn]
    refine WS_for (fun i ρ S' => ∃ b' r v4, IsBox b' ∧ (∀ x ∈ c :: r, x ∈ IN.cps.toList) ∧ r.length = i ∧ S' = S.set n b' ∧ ρ = WE_ n k (some (.p (.str "abcXYZ_019"))) (some (.p (.str (sx (c :: r))))) v4) _ 0 _ _ ⟨b1, [], none, hb1, fun x hx => by rw [List.mem_singleton.mp hx]; exact hc2, rfl, rfl, rfl⟩ ?_ ?_
    · rintro i d ρ S' hd ⟨b2, r, v4, hb2, hin, hr, rfl, rfl⟩
      obtain ⟨hi, rfl⟩ := rngL_get hd
      simp -implicitDefEqProofs only [DL.wpW, reduceIte, Nat.reduceAdd, Nat.reduceLeDiff, DL.sFor_ap]
      refine draw_wp (hsn b2) hb2 (by decide) (hcs' hb2) fun v b4 h0 h1 hb4 => ?_
      rw [hss]
      obtain ⟨x, hx1, hx2⟩ := gIx_lit (z := Str.ofString "abcXYZ_019") (S := S.set n b4) h0 (by rw [show (Str.ofString "abcXYZ_019").length = 10 by decide +kernel]; exact h1) (by decide +kernel)
      have ga := gAdd_sx (a := c :: r) (b := [x]) (S := S.set n b4) (by simp; omega)
      simp -implicitDefEqProofs only [DL.wpW, reduceIte, Nat.reduceAdd, Nat.reduceLeDiff, DL.sFor_ap, hx2, ga]
      exact ⟨by trivial, b4, r ++ [x], _, hb4, fun y hy => (List.mem_append.mp (show y ∈ (c :: r) ++ [x] from hy)).elim (hin y) fun h => by rw [List.mem_singleton.mp h]; exact tl_in x hx1, by rw [List.length_append, hr]; simp, by trivial, by trivial⟩
    · rintro ρ S' ⟨b2, r, v4, hb2, hin, hr, rfl, rfl⟩
      rw [rngL_len] at hr
      exact ⟨b2, r, v4, hb2, hin, by omega, rfl, rfl⟩
  rintro ρ S' ⟨b2, r, v4, hb2, hin, hr, rfl, rfl⟩
  simp -implicitDefEqProofs only [DL.wpW, reduceIte, Nat.reduceAdd, Nat.reduceLeDiff, DL.sFor_ap]
  exact ⟨b2, c, r, hb2, hc1, hin, hr, by trivial, by trivial⟩
end
end My
namespace My
open PySem PySem.Spec PyProof.Rows L2 DL
def rsv : List PyData := [.str "shape", .str "plain", .str "white", .str "black", .str "across", .str "down", .str "join", .str "cost", .str "to"]
theorem rsv_ok : ∀ d ∈ rsv, ∃ w, d = .str (sx w) ∧ (Sg.wd w).ok := by
  have key : ∀ z : Str, (match z.cps.toList with | c :: _ => decide (c ∈ LT.cps.toList) | [] => false) = true → z.cps.toList.all (fun c => decide (c ∈ IN.cps.toList)) = true → z.cps.toList.length ≤ 20 → ∃ w, PyData.str z = .str (sx w) ∧ (Sg.wd w).ok := fun z h1 h2 h3 => by
    refine ⟨z.cps.toList, by rw [← sx_self], ?_, fun x hx => of_decide_eq_true (List.all_eq_true.mp h2 x hx), h3⟩
    cases e : z.cps.toList with
    | nil => rw [e] at h1; cases h1
    | cons c r => rw [e] at h1; exact ⟨c, r, rfl, of_decide_eq_true h1⟩
  intro d hd
  unfold rsv at hd
  simp only [List.mem_cons, List.not_mem_nil, or_false] at hd
  rcases hd with rfl | rfl | rfl | rfl | rfl | rfl | rfl | rfl | rfl <;> exact key _ (by decide +kernel) (by decide +kernel) (by decide +kernel)
def Sg.py (s : Sg) : PyData := .list [s.kd, s.val, .str (sx s.txt)]
theorem dbl_le (w : List Nat) : (dbl w).length ≤ 2 * w.length := by
  induction w with
  | nil => exact Nat.le_refl _
  | cons c w ih =>
    by_cases h : c = 34
    · subst h
      rw [dbl_q, List.length_cons, List.length_cons, List.length_cons]
      omega
    · rw [dbl_c h, List.length_cons, List.length_cons]
      omega
open StrLaws in
theorem rdbl : ∀ q : List Nat, replL [34] [34, 34] q = dbl q
  | [] => replL_nil
  | c :: q => by
    by_cases h : c = 34
    · subst h
      rw [dbl_q, replL_hit (by decide) rfl]
      show [34, 34] ++ replL [34] [34, 34] q = _
      rw [rdbl q]
      rfl
    · rw [dbl_c h, replL_miss, rdbl q]
      intro z
      have z2 := congrArg List.head? z
      simp at z2
      exact h z2
theorem repl_dbl {q : List Nat} : Txt.replace (sx q) "\"" "\"\"" = sx (dbl q) := by
  have h := StrLaws.replace_list (x := sx q) (y := "\"") (z := "\"\"") (by rw [qtS]; decide)
  rw [sx_tl, qqS, qtS] at h
  have h2 := rdbl q
  rw [show (⟨#[34, 34]⟩ : Str).cps.toList = [34, 34] from rfl, show (⟨#[34]⟩ : Str).cps.toList = [34] from rfl, h2] at h
  rw [qqS, qtS, sx_self (Txt.replace _ _ _), h]
theorem digits_snoc (w : List Nat) (x : Nat) : NumText.digitsVal (w ++ [x]) = 10 * NumText.digitsVal w + (x - 48) := by
  rw [show NumText.digitsVal (w ++ [x]) = NumText.digitsVal w * 10 + (x - 48) from NumText.digitsVal_snoc w x, Nat.mul_comm]
theorem occ_dg : ∀ x ∈ DG.cps.toList, Builtin.Str.occurrences DG ⟨#[x]⟩ 0 DG.length 1 = [x - 48] := by decide +kernel
section
variable {S : Sto} {n : Nat} {b : O} {Q : D → Sto → Prop} {E : Xc → Sto → Prop}
abbrev LG (n : Nat) (v1 v2 v3 v4 v5 v6 v7 : Option D) : DL.Env := [some (.ob n), v1, v2, v3, v4, v5, v6, v7, none]
theorem lawsign_wp (hs : S[n]? = some b) (hb : IsBox b) (hc : ClB S) (q : ∀ b' s, IsBox b' → Sg.ok s → Q (.p s.py) (S.set n b')) : WE (G_law_sign [.ob n] S) Q E := by
  have hl : n < S.length := (List.getElem?_eq_some_iff.mp hs).1
  have hsn : ∀ b' : O, (S.set n b')[n]? = some b' := fun b' => List.getElem?_set_self hl
  have hss : ∀ b' b'' : O, (S.set n b').set n b'' = S.set n b'' := fun b' b'' => List.set_set ..
  have hcs' : ∀ {b' : O}, IsBox b' → ClB (S.set n b') := fun h => clB_set hc h.cl
  refine WE_defB (fun d S' => ∃ b' s, IsBox b' ∧ Sg.ok s ∧ d = .p s.py ∧ S' = S.set n b') ?_ (fun d S' ⟨b', s, h1, h2, e1, e2⟩ => ⟨_, S.set n b', [], e1, by rw [e2, List.append_nil], by simp, hcs' h1, q b' s h1 h2⟩)
  rw [show start0 NN_law_sign [.ob n] = LG n none none none none none none none from rfl]
  unfold B_law_sign
  refine WS_cut (fun ρ S' => ∃ b' v, IsBox b' ∧ 0 ≤ v ∧ v < 5 ∧ S' = S.set n b' ∧ ρ = LG n (some (.int v)) none none none none none none) ?_ ?_
  · simp -implicitDefEqProofs only [DL.wpW, reduceIte, Nat.reduceAdd, Nat.reduceLeDiff, DL.sFor_ap]
    refine draw_wp hs hb (by decide) hc fun v b4 h0 h1 hb4 => ?_
    try simp -implicitDefEqProofs only [DL.wpW, reduceIte, Nat.reduceAdd, Nat.reduceLeDiff, DL.sFor_ap]
    exact ⟨b4, v, hb4, h0, h1, by trivial, by trivial⟩
  rintro ρ S' ⟨b1, v, hb1, hv0, hv5, rfl, rfl⟩
  by_cases k0 : v = 0
  · subst k0
    refine WS_cut (fun _ _ => False) ?_ (fun _ _ z => z.elim)
    simp -implicitDefEqProofs only [DL.wpW, reduceIte, Nat.reduceAdd, Nat.reduceLeDiff, DL.sFor_ap]
    refine draw_wp (hsn b1) hb1 (by decide) (hcs' hb1) fun v b4 h0 h1 hb4 => ?_
    rw [hss]
    obtain ⟨d, hd1, hd2⟩ := gIx_l (l := rsv) (S := S.set n b4) h0 h1
    obtain ⟨w, rfl, hok⟩ := rsv_ok d hd1
    unfold rsv at hd2
    simp -implicitDefEqProofs only [DL.wpW, reduceIte, Nat.reduceAdd, Nat.reduceLeDiff, DL.sFor_ap, hd2]
    exact ⟨b4, .wd w, hb4, hok, by trivial, by trivial⟩
  have b0 : (v == 0) = false := beq_eq_false_iff_ne.mpr k0
  refine WS_cut (fun ρ S' => S' = S.set n b1 ∧ ρ = LG n (some (.int v)) none none none none none none) ?_ ?_
  · simp -implicitDefEqProofs only [DL.wpW, reduceIte, Nat.reduceAdd, Nat.reduceLeDiff, DL.sFor_ap, b0]
    try exact ⟨by trivial, by trivial⟩
  rintro ρ S' ⟨rfl, rfl⟩
  by_cases k1 : v = 1
  · subst k1
    refine WS_cut (fun _ _ => False) ?_ (fun _ _ z => z.elim)
    simp -implicitDefEqProofs only [DL.wpW, reduceIte, Nat.reduceAdd, Nat.reduceLeDiff, DL.sFor_ap]
    refine draw_wp (hsn b1) hb1 (by decide) (hcs' hb1) fun v b4 h0 h1 hb4 => ?_
    rw [hss]
    obtain ⟨v, rfl⟩ := Int.eq_ofNat_of_zero_le h0
    have e : (1 : Int) + (v : Int) = ((1 + v : Nat) : Int) := by omega
    simp -implicitDefEqProofs only [DL.wpW, reduceIte, Nat.reduceAdd, Nat.reduceLeDiff, DL.sFor_ap, e]
    refine word_wp (by omega) (by omega) (hsn b4) hb4 (hcs' hb4) fun b5 c r hb5 hc1 hin hlen => ?_
    rw [hss]
    simp -implicitDefEqProofs only [DL.wpW, reduceIte, Nat.reduceAdd, Nat.reduceLeDiff, DL.sFor_ap]
    exact ⟨b5, .wd (c :: r), hb5, ⟨⟨c, r, rfl, hc1⟩, hin, by omega⟩, by trivial, by trivial⟩
  have b1' : (v == 1) = false := beq_eq_false_iff_ne.mpr k1
  refine WS_cut (fun ρ S' => S' = S.set n b1 ∧ ρ = LG n (some (.int v)) none none none none none none) ?_ ?_
  · simp -implicitDefEqProofs only [DL.wpW, reduceIte, Nat.reduceAdd, Nat.reduceLeDiff, DL.sFor_ap, b1']
    try exact ⟨by trivial, by trivial⟩
  rintro ρ S' ⟨rfl, rfl⟩
  by_cases k2 : v = 2
  · subst k2
    refine WS_cut (fun _ _ => False) ?_ (fun _ _ z => z.elim)
    rw [DL.sIf_ap, WS_lift]
    refine WE_mono (Q' := fun bb S' => bb = true ∧ S' = S.set n b1) (E' := fun _ _ => False) ?_ ?_ (fun _ _ z => z.elim)
    · simp -implicitDefEqProofs only [DL.wpW, reduceIte, Nat.reduceAdd, Nat.reduceLeDiff, DL.sFor_ap]
      try exact ⟨by trivial, by trivial⟩
    rintro bb S' ⟨rfl, rfl⟩
    simp only [if_true]
    refine WS_cut (fun ρ S' => ∃ b' w, IsBox b' ∧ w ≠ [] ∧ (∀ x ∈ w, x ∈ DG.cps.toList) ∧ w.length ≤ 9 ∧ S' = S.set n b' ∧ ρ = LG n (some (.int 2)) none none (some (.p (.str (sx w)))) none none none) ?_ ?_
    · simp -implicitDefEqProofs only [DL.wpW, reduceIte, Nat.reduceAdd, Nat.reduceLeDiff, DL.sFor_ap]
      refine join_lc ?_
      simp -implicitDefEqProofs only [DL.wpW, reduceIte, Nat.reduceAdd, Nat.reduceLeDiff, DL.sFor_ap]
      refine draw_wp (hsn b1) hb1 (by decide) (hcs' hb1) fun v b2 h0 h1 hb2 => ?_
      rw [hss]
      obtain ⟨v, rfl⟩ := Int.eq_ofNat_of_zero_le h0
      have bw : big62 (1 + (v : Int)) = true := by
        rw [show (1 : Int) + (v : Int) = ((1 + v : Nat) : Int) by omega]
        exact big62_nat (by omega)
      have tn : (1 + (v : Int)).toNat = 1 + v := by omega
      simp -implicitDefEqProofs only [DL.wpW, reduceIte, Nat.reduceAdd, Nat.reduceLeDiff, DL.sFor_ap, bw, tn]
      refine WE_lc (fun i acc S' => ∃ b cs, IsBox b ∧ S' = S.set n b ∧ acc = cs.map (fun c => PyData.str (sx [c])) ∧ cs.length = i ∧ ∀ c ∈ cs, c ∈ (Str.ofString "0123456789").cps.toList) _ 0 _ _ ⟨b2, [], hb2, rfl, rfl, rfl, fun _ z => nomatch z⟩ ?_ ?_
      · rintro i d acc S' hd ⟨b3, cs, hb3, rfl, rfl, hcl, hcs⟩
        obtain ⟨hi, rfl⟩ := rngL_get hd
        simp -implicitDefEqProofs only [DL.wpW, reduceIte, Nat.reduceAdd, Nat.reduceLeDiff, DL.sFor_ap]
        refine draw_wp (hsn b3) hb3 (by decide) (hcs' hb3) fun v b4 h0 h1 hb4 => ?_
        obtain ⟨c, hc1, hc2⟩ := gIx_lit (z := Str.ofString "0123456789") (S := S.set n b4) h0 (by rw [show (Str.ofString "0123456789").length = 10 by decide +kernel]; exact h1) (by decide +kernel)
        have hL2 : (cs.map fun c => PyData.str (sx [c])).length < 16777216 := by rw [List.length_map]; omega
        rw [hss]
        generalize hacc : (cs.map fun c => PyData.str (sx [c])) = acc at hL2
        simp -implicitDefEqProofs only [DL.wpW, reduceIte, Nat.reduceAdd, Nat.reduceLeDiff, DL.sFor_ap, hc2]
        exact ⟨_, _, rfl, hL2, by trivial, b4, cs ++ [c], hb4, by trivial, by rw [List.map_append, hacc]; rfl, by rw [List.length_append, hcl]; simp, fun x hx => (List.mem_append.mp hx).elim (hcs x) fun h => by rw [List.mem_singleton.mp h]; exact hc1⟩
      · rintro acc S' ⟨b3, cs, hb3, rfl, rfl, hcl, hcs⟩
        rw [rngL_len, Nat.zero_add] at hcl
        refine ⟨cs, by omega, rfl, ?_⟩
        try simp -implicitDefEqProofs only [DL.wpW, reduceIte, Nat.reduceAdd, Nat.reduceLeDiff, DL.sFor_ap]
        exact ⟨b3, cs, hb3, fun z => (by rw [z, List.length_nil] at hcl; omega), hcs, by omega, by trivial, by trivial⟩
    rintro ρ S' ⟨b2, w, hb2, hw0, hw1, hw2, rfl, rfl⟩
    refine WS_cut (fun ρ S' => S' = S.set n b2 ∧ ρ = LG n (some (.int 2)) none none (some (.p (.str (sx w)))) (some (.int ((0 : Nat) : Int))) none none) ?_ ?_
    · simp -implicitDefEqProofs only [DL.wpW, reduceIte, Nat.reduceAdd, Nat.reduceLeDiff, DL.sFor_ap]
      all_goals exact ⟨by trivial, by trivial⟩
    rintro ρ S' ⟨rfl, rfl⟩
    refine WS_cut (fun ρ S' => S' = S.set n b2 ∧ ∃ v6, ρ = LG n (some (.int 2)) none none (some (.p (.str (sx w)))) (some (.int ((NumText.digitsVal w : Nat) : Int))) v6 none) ?_ ?_
    · simp -implicitDefEqProofs only [DL.wpW, reduceIte, Nat.reduceAdd, Nat.reduceLeDiff, DL.sFor_ap, iTxt]
      refine WS_for (fun i ρ S' => S' = S.set n b2 ∧ ∃ v6, ρ = LG n (some (.int 2)) none none (some (.p (.str (sx w)))) (some (.int ((NumText.digitsVal (w.take i) : Nat) : Int))) v6 none) _ 0 _ _ ⟨rfl, none, rfl⟩ ?_ ?_
      · rintro i d ρ S' hd ⟨rfl, v6, rfl⟩
        rw [List.getElem?_map] at hd
        cases ec : w[i]? with
        | none => rw [ec] at hd; cases hd
        | some x =>
          rw [ec] at hd
          cases hd
          have htk : w.take (i + 1) = w.take i ++ [x] := by rw [List.take_succ, ec]; rfl
          have hx := hw1 x (List.mem_of_getElem? ec)
          rw [Nat.zero_add, htk, digits_snoc]
          generalize NumText.digitsVal (w.take i) = m
          have sv : ∀ S : Sto, eSIdx (eC (.str "0123456789")) (eVar 6) (LG n (some (.int 2)) none none (some (.p (.str (sx w)))) (some (.int (m : Nat))) (some (.p (ch x))) none) S = .ok (.int ((x - 48 : Nat) : Int)) S := fun S => by
            have h := occ_dg x hx
            show (match Builtin.Str.occurrences DG ⟨#[x]⟩ 0 DG.length 1 with | i :: _ => Rs.ok (D.int (i : Nat)) S | [] => .st) = _
            rw [h]
          simp -implicitDefEqProofs only [DL.wpW, reduceIte, Nat.reduceAdd, Nat.reduceLeDiff, DL.sFor_ap, sv]
          rw [if_pos (.inl (by decide))]
          exact ⟨trivial, trivial, _, by rw [Int.natCast_add, Int.natCast_mul]; rfl⟩
      · rintro ρ S' ⟨rfl, v6, rfl⟩
        rw [List.length_map, Nat.zero_add, List.take_length]
        exact ⟨rfl, v6, rfl⟩
    rintro ρ S' ⟨rfl, v6, rfl⟩
    simp -implicitDefEqProofs only [DL.wpW, reduceIte, Nat.reduceAdd, Nat.reduceLeDiff, DL.sFor_ap]
    exact ⟨b2, .nm w, hb2, ⟨hw0, hw1, hw2⟩, by trivial, by trivial⟩
  have b2' : (v == 2) = false := beq_eq_false_iff_ne.mpr k2
  refine WS_cut (fun ρ S' => S' = S.set n b1 ∧ ρ = LG n (some (.int v)) none none none none none none) ?_ ?_
  · simp -implicitDefEqProofs only [DL.wpW, reduceIte, Nat.reduceAdd, Nat.reduceLeDiff, DL.sFor_ap, b2']
    try exact ⟨by trivial, by trivial⟩
  rintro ρ S' ⟨rfl, rfl⟩
  by_cases k3 : v = 3
  · subst k3
    refine WS_cut (fun _ _ => False) ?_ (fun _ _ z => z.elim)
    rw [DL.sIf_ap, WS_lift]
    refine WE_mono (Q' := fun bb S' => bb = true ∧ S' = S.set n b1) (E' := fun _ _ => False) ?_ ?_ (fun _ _ z => z.elim)
    · simp -implicitDefEqProofs only [DL.wpW, reduceIte, Nat.reduceAdd, Nat.reduceLeDiff, DL.sFor_ap]
      try exact ⟨by trivial, by trivial⟩
    rintro bb S' ⟨rfl, rfl⟩
    simp only [if_true]
    refine WS_cut (fun ρ S' => ∃ b' w, IsBox b' ∧ w.length ≤ 5 ∧ S' = S.set n b' ∧ ρ = LG n (some (.int 3)) none none none none none (some (.p (.str (sx w))))) ?_ ?_
    · simp -implicitDefEqProofs only [DL.wpW, reduceIte, Nat.reduceAdd, Nat.reduceLeDiff, DL.sFor_ap]
      refine join_lc ?_
      simp -implicitDefEqProofs only [DL.wpW, reduceIte, Nat.reduceAdd, Nat.reduceLeDiff, DL.sFor_ap]
      refine draw_wp (hsn b1) hb1 (by decide) (hcs' hb1) fun v b2 h0 h1 hb2 => ?_
      rw [hss]
      obtain ⟨v, rfl⟩ := Int.eq_ofNat_of_zero_le h0
      have bw : big62 (v : Int) = true := big62_nat (by omega)
      have tn : ((v : Int)).toNat = v := by omega
      simp -implicitDefEqProofs only [DL.wpW, reduceIte, Nat.reduceAdd, Nat.reduceLeDiff, DL.sFor_ap, bw, tn]
      refine WE_lc (fun i acc S' => ∃ b cs, IsBox b ∧ S' = S.set n b ∧ acc = cs.map (fun c => PyData.str (sx [c])) ∧ cs.length = i ∧ ∀ c ∈ cs, c ∈ (Str.ofString "a\" \n;(#.").cps.toList) _ 0 _ _ ⟨b2, [], hb2, rfl, rfl, rfl, fun _ z => nomatch z⟩ ?_ ?_
      · rintro i d acc S' hd ⟨b3, cs, hb3, rfl, rfl, hcl, hcs⟩
        obtain ⟨hi, rfl⟩ := rngL_get hd
        simp -implicitDefEqProofs only [DL.wpW, reduceIte, Nat.reduceAdd, Nat.reduceLeDiff, DL.sFor_ap]
        refine draw_wp (hsn b3) hb3 (by decide) (hcs' hb3) fun v b4 h0 h1 hb4 => ?_
        obtain ⟨c, hc1, hc2⟩ := gIx_lit (z := Str.ofString "a\" \n;(#.") (S := S.set n b4) h0 (by rw [show (Str.ofString "a\" \n;(#.").length = 8 by decide +kernel]; exact h1) (by decide +kernel)
        have hL2 : (cs.map fun c => PyData.str (sx [c])).length < 16777216 := by rw [List.length_map]; omega
        rw [hss]
        generalize hacc : (cs.map fun c => PyData.str (sx [c])) = acc at hL2
        simp -implicitDefEqProofs only [DL.wpW, reduceIte, Nat.reduceAdd, Nat.reduceLeDiff, DL.sFor_ap, hc2]
        exact ⟨_, _, rfl, hL2, by trivial, b4, cs ++ [c], hb4, by trivial, by rw [List.map_append, hacc]; rfl, by rw [List.length_append, hcl]; simp, fun x hx => (List.mem_append.mp hx).elim (hcs x) fun h => by rw [List.mem_singleton.mp h]; exact hc1⟩
      · rintro acc S' ⟨b3, cs, hb3, rfl, rfl, hcl, hcs⟩
        rw [rngL_len, Nat.zero_add] at hcl
        refine ⟨cs, by omega, rfl, ?_⟩
        try simp -implicitDefEqProofs only [DL.wpW, reduceIte, Nat.reduceAdd, Nat.reduceLeDiff, DL.sFor_ap]
        exact ⟨b3, cs, hb3, by omega, by trivial, by trivial⟩
    rintro ρ S' ⟨b2, w, hb2, hw, rfl, rfl⟩
    have hd := dbl_le w
    have er : eRepl (eVar 7) "\"" "\"\"" (LG n (some (.int 3)) none none none none none (some (.p (.str (sx w))))) (S.set n b2) = .ok (.p (.str (sx (dbl w)))) (S.set n b2) := by
      show (if (sx w).length + ((sx w).length + 1) * _ ≤ 16777216 then _ else _) = _
      rw [sx_len, if_pos (by have h2 : (Str.ofString "\"\"").length = 2 := (by decide +kernel); rw [h2]; omega), repl_dbl]
    have g1 := gAdd_sx (a := [34]) (b := dbl w) (S := S.set n b2) (by simp; omega)
    have g2 := gAdd_sx (a := [34] ++ dbl w) (b := [34]) (S := S.set n b2) (by simp; omega)
    have q34 : (Str.ofString "\"") = sx [34] := by rw [qtS]
    rw [q34] at er ⊢
    simp -implicitDefEqProofs only [DL.wpW, reduceIte, Nat.reduceAdd, Nat.reduceLeDiff, DL.sFor_ap, er, g1, g2]
    exact ⟨b2, .qt w, hb2, hw, by trivial, by trivial⟩
  have b3' : (v == 3) = false := beq_eq_false_iff_ne.mpr k3
  refine WS_cut (fun ρ S' => S' = S.set n b1 ∧ ρ = LG n (some (.int v)) none none none none none none) ?_ ?_
  · simp -implicitDefEqProofs only [DL.wpW, reduceIte, Nat.reduceAdd, Nat.reduceLeDiff, DL.sFor_ap, b3']
    try exact ⟨by trivial, by trivial⟩
  rintro ρ S' ⟨rfl, rfl⟩
  simp -implicitDefEqProofs only [DL.wpW, reduceIte, Nat.reduceAdd, Nat.reduceLeDiff, DL.sFor_ap]
  refine draw_wp (hsn b1) hb1 (by decide) (hcs' hb1) fun v b4 h0 h1 hb4 => ?_
  rw [hss]
  obtain ⟨c, hc1, hc2⟩ := gIx_lit (z := SY) (S := S.set n b4) h0 (by rw [show SY.length = 11 by decide +kernel]; exact h1) (by decide +kernel)
  simp -implicitDefEqProofs only [DL.wpW, reduceIte, Nat.reduceAdd, Nat.reduceLeDiff, DL.sFor_ap, hc2]
  exact ⟨b4, .sy c, hb4, hc1, by trivial, by trivial⟩
end
end My
namespace My
open PySem PySem.Spec PyProof.Rows L2 DL
@[simp] theorem eIsE_ap {a0 : Addr} {dd : Option Addr} {b : Bool} {f : ED} {ρ : DL.Env} {S : Sto} : eIsE a0 dd b f ρ S = (f ρ S).bind fun d S1 => match d with
  | .xc a d2 _ => if a = a0 ∧ d2 = dd then .ok (.bl b) S1 else .st
  | _ => .st := rfl
abbrev oth : List PyData := [.bool true, .bool false, .bool false, .bool false, .bool false, .bool false]
theorem lk_line {p : Nat × Nat} {r : Str} : (flt p r).fs.lookup (Str.ofString "line") = some (PyData.int p.1) := by
  have e1 : (Str.ofString "line" == Str.ofString "reason") = false := by decide +kernel
  have e2 : (Str.ofString "line" == Str.ofString "column") = false := by decide +kernel
  have e3 : (Str.ofString "line" == Str.ofString "line") = true := by decide +kernel
  simp only [flt, List.lookup, e1, e2, e3]
theorem lk_col {p : Nat × Nat} {r : Str} : (flt p r).fs.lookup (Str.ofString "column") = some (PyData.int p.2) := by
  have e1 : (Str.ofString "column" == Str.ofString "reason") = false := by decide +kernel
  have e3 : (Str.ofString "column" == Str.ofString "column") = true := by decide +kernel
  simp only [flt, List.lookup, e1, e3]
theorem lk_rs {p : Nat × Nat} {r : Str} : (flt p r).fs.lookup (Str.ofString "reason") = some (PyData.str r) := by
  have e3 : (Str.ofString "reason" == Str.ofString "reason") = true := by decide +kernel
  simp only [flt, List.lookup, e3]
section
variable {S : Sto} {Q : D → Sto → Prop} {E : Xc → Sto → Prop} {a0 : Addr} {dd : Option Addr} {fs : List (Str × PyData)}
theorem only_ok {ks : List PyData} {b : Bool} (hk : gEq false (.p (.list oth)) (.p (.list ks)) S = .ok (.bl b) S) (hc : ClB S) : G_law_only "Fault" a0 dd [.xc a0 dd fs, .p (.list ks)] S = .ok (.bl b) S := by
  refine gB_rt (T := []) ?_ rfl hc
  simp only [rc_Fault_BadReading, rc_Fault_BadRegion, rc_Fault_TooLarge, rc_Fault_Fault, rc_Fault_TooMany, rc_Fault_OutsideImage, rc_Fault_BadNumbers, rc_Fault_BadWords, rc_Fault_ValueError]
  simp [B_law_only, start0, hk]
theorem eq1 : gEq false (.p (.list oth)) (.p (.list oth)) S = .ok (.bl true) S := by
  rw [gEq_pp]
  have : scalD (.list oth) (.list oth) = false := rfl
  rw [this, if_neg Bool.false_ne_true, if_pos ⟨by decide +kernel, by decide +kernel⟩]
  rfl
def fltP (p : Nat × Nat) (r : Str) : PyData := .tuple [.str "fault", .int p.1, .int p.2, .str r]
theorem told_ok {p : Nat × Nat} {r : Str} (hd : dd.isSome = true) (hc : ClB S) : G_law_told "Fault" a0 dd [.xc a0 dd (flt p r).fs] S = .ok (.p (fltP p r)) S := by
  refine gB_rt (T := []) ?_ rfl hc
  have o1 := only_ok (a0 := a0) (dd := dd) (fs := (flt p r).fs) (S := S) eq1 hc
  simp [B_law_told, start0, o1, eAttr, hd, lk_line, lk_col, lk_rs, fltP, -eLc_ap]
theorem actual_bad {t : List Nat} {p : Nat × Nat} {r : Str} (hc : ClB S) (h : WE (G_split [.p (.str (sx t))] S) (fun _ _ => False) (fun x S' => x = flt p r ∧ S' = S)) : G_law_actual [.p (.str (sx t))] S = .ok (.p (fltP p r)) S := by
  have e : G_split [.p (.str (sx t))] S = .ex (flt p r) S := by
    generalize G_split [.p (.str (sx t))] S = R at h
    cases R with
    | st => exact h.elim
    | ok d S' => exact h.elim
    | ex x S' => obtain ⟨rfl, rfl⟩ := h; rfl
  refine gB_rt (T := []) ?_ rfl hc
  rw [List.append_nil]
  unfold B_law_actual sTry
  have e1 : sRetR (eCallX 1 G_split (aCons (eVar 0) (aNil))) (start0 NN_law_actual [.p (.str (sx t))]) S = .ex (flt p r) (start0 NN_law_actual [.p (.str (sx t))]) S := by
    simp [start0, eCallX, e, sRetR, liftS]
  rw [e1]
  have sb : sub_law_actual (flt p r).c (!(flt p r).fs.isEmpty) = some true := by
    show (if _ then _ else _) = _
    rw [if_pos ⟨rfl, rfl⟩]
  simp only [sb]
  refine common_eq (fun a d hd => ?_) ⟨some 0, rfl⟩
  have hd2 : d.isSome = true := hd
  have t2 : G_law_told (flt p r).c a d [.xc a d (flt p r).fs] S = .ok (.p (fltP p r)) S := told_ok hd2 hc
  simp [start0, gone, -eLc_ap]
  rw [t2]
  rfl
theorem actual_ok {t : List Nat} {l : List PyData} (hc : ClB S) (h : WE (G_split [.p (.str (sx t))] S) (fun d S' => d = .p (.list l) ∧ S' = S) (fun _ _ => False)) : G_law_actual [.p (.str (sx t))] S = .ok (.p (.list l)) S := by
  have e : G_split [.p (.str (sx t))] S = .ok (.p (.list l)) S := by
    generalize G_split [.p (.str (sx t))] S = R at h
    cases R with
    | st => exact h.elim
    | ex x S' => exact h.elim
    | ok x S' => obtain ⟨rfl, rfl⟩ := h; rfl
  refine gB_rt (T := []) ?_ rfl hc
  rw [List.append_nil]
  unfold B_law_actual sTry
  have e1 : sRetR (eCallX 1 G_split (aCons (eVar 0) (aNil))) (start0 NN_law_actual [.p (.str (sx t))]) S = .rt (.p (.list l)) S := by
    simp [start0, eCallX, e, sRetR, liftS]
  rw [e1]
end
end My
namespace My
open PySem PySem.Spec PyProof.Rows L2 DL
@[simp] theorem kit1 : kitB "tuple" "tuple" = some true := by decide +kernel
@[simp] theorem kit2 : kitB "bool" "tuple" = some false := by decide +kernel
@[simp] theorem kit3 : kitB "int" "tuple" = some false := by decide +kernel
@[simp] theorem kit4 : kitB "str" "tuple" = some false := by decide +kernel
@[simp] theorem kit5 : kitB "bool" "bool" = some true := by decide +kernel
@[simp] theorem kit6 : kitB "int" "bool" = some false := by decide +kernel
@[simp] theorem kit7 : kitB "str" "bool" = some false := by decide +kernel
@[simp] theorem kit8 : kitB "int" "int" = some true := by decide +kernel
@[simp] theorem kit9 : kitB "str" "int" = some false := by decide +kernel
@[simp] theorem kit10 : kitB "str" "str" = some true := by decide +kernel
section
variable {S : Sto}
@[simp] theorem tyD_tup {l : List PyData} : tyD S (.p (.tuple l)) = some "tuple" := rfl
@[simp] theorem tyD_bl {l : Bool} : tyD S (.p (.bool l)) = some "bool" := rfl
@[simp] theorem tyD_int {l : Int} : tyD S (.p (.int l)) = some "int" := rfl
@[simp] theorem tyD_str {l : Str} : tyD S (.p (.str l)) = some "str" := rfl
theorem isint_ok {i : Int} (hc : ClB S) : G_law_is_integer [.p (.int i)] S = .ok (.bl true) S := by
  refine gB_rt (T := []) ?_ rfl hc
  simp [B_law_is_integer, start0]
def kindOk : Nat → PyData → Prop
  | 0, _ => False
  | n + 1, .tuple l => l.length < 1000000 ∧ ∀ d ∈ l, kindOk n d
  | _ + 1, .bool _ => True
  | _ + 1, .int _ => True
  | _ + 1, .str _ => True
  | _, _ => False
theorem same_ok (hc : ClB S) (n : Nat) : ∀ d : PyData, kindOk n d → G_law_same n [.p d, .p d] S = .ok (.bl true) S := by
  induction n with
  | zero => exact fun _ h => h.elim
  | succ n ih =>
    intro d h
    have hS := hc
    cases d with
    | none => exact h.elim
    | list _ => exact h.elim
    | dict _ => exact h.elim
    | bool b =>
      refine gB_rt (T := []) ?_ rfl hS
      simp [B_law_same, start0]
    | int b =>
      refine gB_rt (T := []) ?_ rfl hS
      simp [B_law_same, start0, isint_ok hc]
    | str b =>
      refine gB_rt (T := []) ?_ rfl hS
      simp [B_law_same, start0]
    | tuple l =>
      obtain ⟨hl, hk⟩ := h
      refine gB_rt (T := []) ?_ rfl hS
      obtain ⟨ρ', S', e, eS, v, rfl⟩ := forL_inv (g := gNm 2) (chk := fun _ => True) (body := sIf (bNot (bTru (eCall 2 (G_law_same n) (aCons (eBin gIx (eVar 0) (eVar 2)) (aCons (eBin gIx (eVar 1) (eVar 2)) (aNil)))))) (sRetR (eC (.bool false))) (sNil))
        (fun i ρ S' => S' = S ∧ ∃ v, ρ = [some (.p (.tuple l)), some (.p (.tuple l)), v]) (rngL 0 l.length) 0 [some (.p (.tuple l)), some (.p (.tuple l)), none] S
        (fun i d ρ S' hd hI => by
          obtain ⟨hi, rfl⟩ := rngL_get hd
          obtain ⟨eS, v, rfl⟩ := hI
          have e : l[i]? = some l[i] := List.getElem?_eq_getElem hi
          refine ⟨_, _, gNm_ap, [some (.p (.tuple l)), some (.p (.tuple l)), some (.int (0 + i))], S, .inl ?_, trivial, rfl, _, rfl⟩
          have := ih l[i] (hk _ (List.getElem_mem hi))
          rw [eS]
          simp [e, this])
        ⟨rfl, none, rfl⟩
      have hb : big62 (l.length : Int) = true := big62_nat (by omega)
      rw [eS] at e
      simp [B_law_same, start0, hb, e]
end
def lstP : Option Sg → PyData
  | none => .list [.str "symbol"]
  | some s => s.py
def stopO : Option Sg → Nat → Prop
  | none, _ => True
  | some s, c => s.stop c
theorem k_ws : (Str.ofString "word" == Str.ofString "symbol") = false := by decide +kernel
theorem k_wq : (Str.ofString "word" == Str.ofString "quoted") = false := by decide +kernel
theorem k_wn : (Str.ofString "word" == Str.ofString "number") = false := by decide +kernel
theorem k_ns : (Str.ofString "number" == Str.ofString "symbol") = false := by decide +kernel
theorem k_nq : (Str.ofString "number" == Str.ofString "quoted") = false := by decide +kernel
theorem k_nw : (Str.ofString "number" == Str.ofString "word") = false := by decide +kernel
theorem k_qs : (Str.ofString "quoted" == Str.ofString "symbol") = false := by decide +kernel
theorem k_qw : (Str.ofString "quoted" == Str.ofString "word") = false := by decide +kernel
theorem k_qn : (Str.ofString "quoted" == Str.ofString "number") = false := by decide +kernel
theorem k_sq : (Str.ofString "symbol" == Str.ofString "quoted") = false := by decide +kernel
theorem k_sw : (Str.ofString "symbol" == Str.ofString "word") = false := by decide +kernel
theorem k_sn : (Str.ofString "symbol" == Str.ofString "number") = false := by decide +kernel
theorem sy_in : ∀ c ∈ SY.cps.toList, c ∉ IN.cps.toList := by decide +kernel
theorem lt_dg : ∀ c ∈ LT.cps.toList, c ∉ DG.cps.toList ∧ c ≠ 34 := by decide +kernel
theorem dg_q : ∀ c ∈ DG.cps.toList, c ≠ 34 := by decide +kernel
theorem q_in : 34 ∉ IN.cps.toList := by decide +kernel
section
variable {S : Sto} {n : Nat} {b : O} {Q : D → Sto → Prop} {E : Xc → Sto → Prop}
def apB : Option Sg → Sg → Bool
  | none, _ => true
  | some (.sy _), _ => true
  | some _, .sy _ => true
  | some (.qt _), .qt _ => false
  | some (.qt _), _ => true
  | some _, .qt _ => true
  | some (.nm _), .wd _ => true
  | some _, _ => false
theorem apB_stop {o : Option Sg} {s : Sg} (hs : s.ok) (h : apB o s = true) : ∀ c, s.txt[0]? = some c → stopO o c := by
  intro c hc
  cases o with
  | none => trivial
  | some l =>
    show l.stop c
    cases l with
    | sy _ => trivial
    | wd w =>
      show c ∉ IN.cps.toList
      cases s with
      | wd _ => cases h
      | nm _ => cases h
      | qt q => cases hc; exact q_in
      | sy d => cases hc; exact sy_in c hs
    | nm w =>
      show c ∉ DG.cps.toList
      cases s with
      | wd _ =>
        obtain ⟨⟨c', r, e, h1⟩, _⟩ := hs
        rw [show (Sg.wd _).txt = c' :: r from e] at hc
        cases hc
        exact (lt_dg c h1).1
      | nm _ => cases h
      | qt q => cases hc; exact q_nl.2
      | sy d => cases hc; exact (sy_n c hs).2.1
    | qt w =>
      show c ≠ 34
      cases s with
      | wd _ =>
        obtain ⟨⟨c', r, e, h1⟩, _⟩ := hs
        rw [show (Sg.wd _).txt = c' :: r from e] at hc
        cases hc
        exact (lt_dg c h1).2
      | nm _ => exact dg_q c (hs.2.1 c (List.mem_of_getElem? hc))
      | qt q => cases h
      | sy d => cases hc; exact (sy_n c hs).2.2
theorem apart_wp {o : Option Sg} {s : Sg} (hc : ClB S) (q : Q (.bl (apB o s)) S) : WE (G_law_apart [.p (lstP o), .p s.py] S) Q E := by
  refine WE_defB (fun d S' => d = .bl (apB o s) ∧ S' = S) ?_ (fun d S' ⟨e1, e2⟩ => ⟨_, S, [], e1, by rw [e2, List.append_nil], rfl, hc, q⟩)
  rw [show start0 NN_law_apart [.p (lstP o), .p s.py] = [some (.p (lstP o)), some (.p s.py)] from rfl]
  unfold B_law_apart
  have g0 : ∀ (s : Sg) (S : Sto), gIx (.p s.py) (.p (.int 0)) S = .ok (.p s.kd) S := fun _ _ => rfl
  have g1 : ∀ (S : Sto), gIx (.p (.list [.str "symbol"])) (.p (.int 0)) S = .ok (.p (.str "symbol")) S := fun _ => rfl
  cases o with
  | none =>
    simp -implicitDefEqProofs only [DL.wpW, reduceIte, Nat.reduceAdd, Nat.reduceLeDiff, DL.sFor_ap, lstP, g1, k_ws, k_wq, k_wn, k_ns, k_nq, k_nw, k_qs, k_qw, k_qn, k_sq, k_sw, k_sn, beq_self_eq_true]
    exact ⟨rfl, trivial⟩
  | some l =>
    rw [show lstP (some l) = l.py from rfl]
    cases l with
    | wd w =>
      cases s with
      | wd v =>
        simp -implicitDefEqProofs only [DL.wpW, reduceIte, Nat.reduceAdd, Nat.reduceLeDiff, DL.sFor_ap, g0, Sg.kd, k_ws, k_wq, k_wn, k_ns, k_nq, k_nw, k_qs, k_qw, k_qn, k_sq, k_sw, k_sn, beq_self_eq_true]
        first | exact ⟨rfl, trivial⟩ | skip
      | nm v =>
        simp -implicitDefEqProofs only [DL.wpW, reduceIte, Nat.reduceAdd, Nat.reduceLeDiff, DL.sFor_ap, g0, Sg.kd, k_ws, k_wq, k_wn, k_ns, k_nq, k_nw, k_qs, k_qw, k_qn, k_sq, k_sw, k_sn, beq_self_eq_true]
        first | exact ⟨rfl, trivial⟩ | skip
      | qt v =>
        simp -implicitDefEqProofs only [DL.wpW, reduceIte, Nat.reduceAdd, Nat.reduceLeDiff, DL.sFor_ap, g0, Sg.kd, k_ws, k_wq, k_wn, k_ns, k_nq, k_nw, k_qs, k_qw, k_qn, k_sq, k_sw, k_sn, beq_self_eq_true]
        first | exact ⟨rfl, trivial⟩ | skip
      | sy v =>
        simp -implicitDefEqProofs only [DL.wpW, reduceIte, Nat.reduceAdd, Nat.reduceLeDiff, DL.sFor_ap, g0, Sg.kd, k_ws, k_wq, k_wn, k_ns, k_nq, k_nw, k_qs, k_qw, k_qn, k_sq, k_sw, k_sn, beq_self_eq_true]
        first | exact ⟨rfl, trivial⟩ | skip
    | nm w =>
      cases s with
      | wd v =>
        simp -implicitDefEqProofs only [DL.wpW, reduceIte, Nat.reduceAdd, Nat.reduceLeDiff, DL.sFor_ap, g0, Sg.kd, k_ws, k_wq, k_wn, k_ns, k_nq, k_nw, k_qs, k_qw, k_qn, k_sq, k_sw, k_sn, beq_self_eq_true]
        first | exact ⟨rfl, trivial⟩ | skip
      | nm v =>
        simp -implicitDefEqProofs only [DL.wpW, reduceIte, Nat.reduceAdd, Nat.reduceLeDiff, DL.sFor_ap, g0, Sg.kd, k_ws, k_wq, k_wn, k_ns, k_nq, k_nw, k_qs, k_qw, k_qn, k_sq, k_sw, k_sn, beq_self_eq_true]
        first | exact ⟨rfl, trivial⟩ | skip
      | qt v =>
        simp -implicitDefEqProofs only [DL.wpW, reduceIte, Nat.reduceAdd, Nat.reduceLeDiff, DL.sFor_ap, g0, Sg.kd, k_ws, k_wq, k_wn, k_ns, k_nq, k_nw, k_qs, k_qw, k_qn, k_sq, k_sw, k_sn, beq_self_eq_true]
        first | exact ⟨rfl, trivial⟩ | skip
      | sy v =>
        simp -implicitDefEqProofs only [DL.wpW, reduceIte, Nat.reduceAdd, Nat.reduceLeDiff, DL.sFor_ap, g0, Sg.kd, k_ws, k_wq, k_wn, k_ns, k_nq, k_nw, k_qs, k_qw, k_qn, k_sq, k_sw, k_sn, beq_self_eq_true]
        first | exact ⟨rfl, trivial⟩ | skip
    | qt w =>
      cases s with
      | wd v =>
        simp -implicitDefEqProofs only [DL.wpW, reduceIte, Nat.reduceAdd, Nat.reduceLeDiff, DL.sFor_ap, g0, Sg.kd, k_ws, k_wq, k_wn, k_ns, k_nq, k_nw, k_qs, k_qw, k_qn, k_sq, k_sw, k_sn, beq_self_eq_true]
        first | exact ⟨rfl, trivial⟩ | skip
      | nm v =>
        simp -implicitDefEqProofs only [DL.wpW, reduceIte, Nat.reduceAdd, Nat.reduceLeDiff, DL.sFor_ap, g0, Sg.kd, k_ws, k_wq, k_wn, k_ns, k_nq, k_nw, k_qs, k_qw, k_qn, k_sq, k_sw, k_sn, beq_self_eq_true]
        first | exact ⟨rfl, trivial⟩ | skip
      | qt v =>
        simp -implicitDefEqProofs only [DL.wpW, reduceIte, Nat.reduceAdd, Nat.reduceLeDiff, DL.sFor_ap, g0, Sg.kd, k_ws, k_wq, k_wn, k_ns, k_nq, k_nw, k_qs, k_qw, k_qn, k_sq, k_sw, k_sn, beq_self_eq_true]
        first | exact ⟨rfl, trivial⟩ | skip
      | sy v =>
        simp -implicitDefEqProofs only [DL.wpW, reduceIte, Nat.reduceAdd, Nat.reduceLeDiff, DL.sFor_ap, g0, Sg.kd, k_ws, k_wq, k_wn, k_ns, k_nq, k_nw, k_qs, k_qw, k_qn, k_sq, k_sw, k_sn, beq_self_eq_true]
        first | exact ⟨rfl, trivial⟩ | skip
    | sy w =>
      cases s with
      | wd v =>
        simp -implicitDefEqProofs only [DL.wpW, reduceIte, Nat.reduceAdd, Nat.reduceLeDiff, DL.sFor_ap, g0, Sg.kd, k_ws, k_wq, k_wn, k_ns, k_nq, k_nw, k_qs, k_qw, k_qn, k_sq, k_sw, k_sn, beq_self_eq_true]
        first | exact ⟨rfl, trivial⟩ | skip
      | nm v =>
        simp -implicitDefEqProofs only [DL.wpW, reduceIte, Nat.reduceAdd, Nat.reduceLeDiff, DL.sFor_ap, g0, Sg.kd, k_ws, k_wq, k_wn, k_ns, k_nq, k_nw, k_qs, k_qw, k_qn, k_sq, k_sw, k_sn, beq_self_eq_true]
        first | exact ⟨rfl, trivial⟩ | skip
      | qt v =>
        simp -implicitDefEqProofs only [DL.wpW, reduceIte, Nat.reduceAdd, Nat.reduceLeDiff, DL.sFor_ap, g0, Sg.kd, k_ws, k_wq, k_wn, k_ns, k_nq, k_nw, k_qs, k_qw, k_qn, k_sq, k_sw, k_sn, beq_self_eq_true]
        first | exact ⟨rfl, trivial⟩ | skip
      | sy v =>
        simp -implicitDefEqProofs only [DL.wpW, reduceIte, Nat.reduceAdd, Nat.reduceLeDiff, DL.sFor_ap, g0, Sg.kd, k_ws, k_wq, k_wn, k_ns, k_nq, k_nw, k_qs, k_qw, k_qn, k_sq, k_sw, k_sn, beq_self_eq_true]
        first | exact ⟨rfl, trivial⟩ | skip
def Bd.hd : Bd → Int
  | .ch _ => 0
  | .wd _ => 20
  | .nm _ => 9
  | .qt _ => -1
def Bd.py (s : Bd) : PyData := .list [.str (sx s.txt), .str s.rs, .int s.hd]
theorem bad_ch : ∀ c ∈ (Str.ofString "!$&'-./:<>\x40[]^_~\\").cps.toList, (Bd.ch c).ok := by
  have : ∀ c ∈ (Str.ofString "!$&'-./:<>\x40[]^_~\\").cps.toList, c ∉ LT.cps.toList ∧ c ∉ DG.cps.toList ∧ c ≠ 34 ∧ c ∉ SY.cps.toList ∧ c ≠ 32 ∧ c ≠ 10 := by decide +kernel
  exact this
theorem dbl_rep : ∀ k : Nat, dbl (List.replicate k 98) = List.replicate k 98
  | 0 => rfl
  | k + 1 => by rw [List.replicate_succ, dbl_c (by decide), dbl_rep k]
theorem spoilt_wp (hs : S[n]? = some b) (hb : IsBox b) (hc : ClB S) (q : ∀ b' s, IsBox b' → Bd.ok s → s.txt.length ≤ 100 → Q (.p s.py) (S.set n b')) : WE (G_law_spoilt [.ob n] S) Q E := by
  have hl : n < S.length := (List.getElem?_eq_some_iff.mp hs).1
  have hsn : ∀ b' : O, (S.set n b')[n]? = some b' := fun b' => List.getElem?_set_self hl
  have hss : ∀ b' b'' : O, (S.set n b').set n b'' = S.set n b'' := fun b' b'' => List.set_set ..
  have hcs' : ∀ {b' : O}, IsBox b' → ClB (S.set n b') := fun h => clB_set hc h.cl
  refine WE_defB (fun d S' => ∃ b' s, IsBox b' ∧ Bd.ok s ∧ s.txt.length ≤ 100 ∧ d = .p s.py ∧ S' = S.set n b') ?_ (fun d S' ⟨b', s, h1, h2, h3, e1, e2⟩ => ⟨_, S.set n b', [], e1, by rw [e2, List.append_nil], by simp, hcs' h1, q b' s h1 h2 h3⟩)
  rw [show start0 NN_law_spoilt [.ob n] = [some (.ob n), none] from rfl]
  unfold B_law_spoilt
  refine WS_cut (fun ρ S' => ∃ b' v, IsBox b' ∧ 0 ≤ v ∧ v < 4 ∧ S' = S.set n b' ∧ ρ = [some (.ob n), some (.int v)]) ?_ ?_
  · simp -implicitDefEqProofs only [DL.wpW, reduceIte, Nat.reduceAdd, Nat.reduceLeDiff, DL.sFor_ap]
    refine draw_wp hs hb (by decide) hc fun v b4 h0 h1 hb4 => ?_
    try simp -implicitDefEqProofs only [DL.wpW, reduceIte, Nat.reduceAdd, Nat.reduceLeDiff, DL.sFor_ap]
    exact ⟨b4, v, hb4, h0, h1, by trivial, by trivial⟩
  rintro ρ S' ⟨b1, v, hb1, hv0, hv5, rfl, rfl⟩
  by_cases k0 : v = 0
  · subst k0
    refine WS_cut (fun _ _ => False) ?_ (fun _ _ z => z.elim)
    simp -implicitDefEqProofs only [DL.wpW, reduceIte, Nat.reduceAdd, Nat.reduceLeDiff, DL.sFor_ap]
    refine draw_wp (hsn b1) hb1 (by decide) (hcs' hb1) fun v b4 h0 h1 hb4 => ?_
    rw [hss]
    obtain ⟨c, hc1, hc2⟩ := gIx_lit (z := Str.ofString "!$&'-./:<>\x40[]^_~\\") (S := S.set n b4) h0 (by rw [show (Str.ofString "!$&'-./:<>\x40[]^_~\\").length = 17 by decide +kernel]; exact h1) (by decide +kernel)
    simp -implicitDefEqProofs only [DL.wpW, reduceIte, Nat.reduceAdd, Nat.reduceLeDiff, DL.sFor_ap, hc2]
    exact ⟨b4, .ch c, hb4, bad_ch c hc1, by show 1 ≤ 100; omega, by trivial, by trivial⟩
  have b0 : (v == 0) = false := beq_eq_false_iff_ne.mpr k0
  refine WS_cut (fun ρ S' => S' = S.set n b1 ∧ ρ = [some (.ob n), some (.int v)]) ?_ ?_
  · simp -implicitDefEqProofs only [DL.wpW, reduceIte, Nat.reduceAdd, Nat.reduceLeDiff, DL.sFor_ap, b0]
    try exact ⟨by trivial, by trivial⟩
  rintro ρ S' ⟨rfl, rfl⟩
  by_cases k1 : v = 1
  · subst k1
    refine WS_cut (fun _ _ => False) ?_ (fun _ _ z => z.elim)
    simp -implicitDefEqProofs only [DL.wpW, reduceIte, Nat.reduceAdd, Nat.reduceLeDiff, DL.sFor_ap]
    refine draw_wp (hsn b1) hb1 (by decide) (hcs' hb1) fun v b4 h0 h1 hb4 => ?_
    rw [hss]
    obtain ⟨v, rfl⟩ := Int.eq_ofNat_of_zero_le h0
    have e : (21 : Int) + (v : Int) = ((21 + v : Nat) : Int) := by omega
    simp -implicitDefEqProofs only [DL.wpW, reduceIte, Nat.reduceAdd, Nat.reduceLeDiff, DL.sFor_ap, e]
    refine word_wp (by omega) (by omega) (hsn b4) hb4 (hcs' hb4) fun b5 c r hb5 hc1 hin hlen => ?_
    rw [hss]
    simp -implicitDefEqProofs only [DL.wpW, reduceIte, Nat.reduceAdd, Nat.reduceLeDiff, DL.sFor_ap]
    exact ⟨b5, .wd (c :: r), hb5, ⟨⟨c, r, rfl, hc1⟩, hin, by omega⟩, by show (c :: r).length ≤ 100; omega, by trivial, by trivial⟩
  have b1' : (v == 1) = false := beq_eq_false_iff_ne.mpr k1
  refine WS_cut (fun ρ S' => S' = S.set n b1 ∧ ρ = [some (.ob n), some (.int v)]) ?_ ?_
  · simp -implicitDefEqProofs only [DL.wpW, reduceIte, Nat.reduceAdd, Nat.reduceLeDiff, DL.sFor_ap, b1']
    try exact ⟨by trivial, by trivial⟩
  rintro ρ S' ⟨rfl, rfl⟩
  have oneS : Str.ofString "1" = SX.S [49] := by decide +kernel
  have bS : Str.ofString "b" = SX.S [98] := by decide +kernel
  by_cases k2 : v = 2
  · subst k2
    refine WS_cut (fun _ _ => False) ?_ (fun _ _ z => z.elim)
    simp -implicitDefEqProofs only [DL.wpW, reduceIte, Nat.reduceAdd, Nat.reduceLeDiff, DL.sFor_ap]
    refine draw_wp (hsn b1) hb1 (by decide) (hcs' hb1) fun v b4 h0 h1 hb4 => ?_
    rw [hss]
    obtain ⟨v, rfl⟩ := Int.eq_ofNat_of_zero_le h0
    have gm : gMulT (.p (.str (Str.ofString "1"))) (.p (.int ((10 : Int) + (v : Int)))) (S.set n b4) = .ok (.str (sx (List.replicate (10 + v) 49))) (S.set n b4) := by
      rw [oneS, show (10 : Int) + (v : Int) = ((10 + v : Nat) : Int) by omega]
      exact gMulT_one (by omega)
    simp -implicitDefEqProofs only [DL.wpW, reduceIte, Nat.reduceAdd, Nat.reduceLeDiff, DL.sFor_ap, gm]
    refine ⟨b4, .nm (List.replicate (10 + v) 49), hb4, ⟨fun x hx => ?_, by rw [List.length_replicate]; omega⟩, by show (List.replicate (10 + v) 49).length ≤ 100; rw [List.length_replicate]; omega, by trivial, by trivial⟩
    rw [List.eq_of_mem_replicate hx]
    decide +kernel
  have b2' : (v == 2) = false := beq_eq_false_iff_ne.mpr k2
  refine WS_cut (fun ρ S' => S' = S.set n b1 ∧ ρ = [some (.ob n), some (.int v)]) ?_ ?_
  · simp -implicitDefEqProofs only [DL.wpW, reduceIte, Nat.reduceAdd, Nat.reduceLeDiff, DL.sFor_ap, b2']
    try exact ⟨by trivial, by trivial⟩
  rintro ρ S' ⟨rfl, rfl⟩
  have qaS : Str.ofString "\"a\"\"" = sx [34, 97, 34, 34] := by decide +kernel
  rw [qaS]
  simp -implicitDefEqProofs only [DL.wpW, reduceIte, Nat.reduceAdd, Nat.reduceLeDiff, DL.sFor_ap]
  refine draw_wp (hsn b1) hb1 (by decide) (hcs' hb1) fun v b4 h0 h1 hb4 => ?_
  rw [hss]
  obtain ⟨v, rfl⟩ := Int.eq_ofNat_of_zero_le h0
  have gm : gMulT (.p (.str (Str.ofString "b"))) (.p (.int (v : Int))) (S.set n b4) = .ok (.str (sx (List.replicate v 98))) (S.set n b4) := by
    rw [bS]
    exact gMulT_one (by omega)
  have ga := gAdd_sx (a := [34, 97, 34, 34]) (b := List.replicate v 98) (S := S.set n b4) (by simp; omega)
  simp -implicitDefEqProofs only [DL.wpW, reduceIte, Nat.reduceAdd, Nat.reduceLeDiff, DL.sFor_ap, gm, ga]
  have et : (Bd.qt (97 :: 34 :: List.replicate v 98)).txt = [34, 97, 34, 34] ++ List.replicate v 98 := by
    show 34 :: (dbl (97 :: 34 :: List.replicate v 98) ++ []) = _
    rw [dbl_c (by decide), dbl_q, dbl_rep, List.append_nil]
    rfl
  refine ⟨b4, .qt (97 :: 34 :: List.replicate v 98), hb4, trivial, by rw [et, List.length_append, List.length_replicate]; simp; omega, ?_, by trivial⟩
  unfold Bd.py
  rw [et]
  rfl
end
end My
namespace My
open PySem PySem.Spec PyProof.Rows L2 DL
abbrev gpS : List Nat := (Str.ofString " \n").cps.toList
theorem gp_stop {o : Option Sg} : ∀ c ∈ gpS, stopO o c := by
  intro c hc
  have h : c ∉ IN.cps.toList ∧ c ∉ DG.cps.toList ∧ c ≠ 34 := by
    have : ∀ c ∈ gpS, c ∉ IN.cps.toList ∧ c ∉ DG.cps.toList ∧ c ≠ 34 := by decide +kernel
    exact this c hc
  cases o with
  | none => trivial
  | some s =>
    cases s with
    | wd _ => exact h.1
    | nm _ => exact h.2.1
    | qt _ => exact h.2.2
    | sy _ => trivial
theorem Lx_gaps {fin : Option Bd} {r : List Nat} {ts : List (Sg × (Nat × Nat))} : ∀ (g T : List Nat), (∀ c ∈ g, c ∈ gpS) → Lx fin (T ++ g) r ts → Lx fin T (g ++ r) ts
  | [], T, _, h => by rw [List.append_nil] at h; exact h
  | c :: g, T, hg, h => .gap T c (g ++ r) ts (hg c List.mem_cons_self) (Lx_gaps g (T ++ [c]) (fun x hx => hg x (List.mem_cons_of_mem _ hx)) (by rw [List.append_assoc]; exact h))
def Pre (T : List Nat) (dn : List (Sg × (Nat × Nat))) (o : Option Sg) : Prop := ∀ (fin : Option Bd) (U : List Nat) (ts : List (Sg × (Nat × Nat))), (∀ c, U[0]? = some c → stopO o c) → Lx fin T U ts → Lx fin [] (T ++ U) (dn ++ ts)
theorem pre_nil : Pre [] [] none := fun _ _ _ _ h => h
theorem gap_head {g r : List Nat} {o : Option Sg} (hg : ∀ c ∈ g, c ∈ gpS) (hr : g = [] → ∀ c, r[0]? = some c → stopO o c) : ∀ c, (g ++ r)[0]? = some c → stopO o c := by
  cases g with
  | nil => exact hr rfl
  | cons x g =>
    intro c hc
    cases hc
    exact gp_stop _ (hg _ List.mem_cons_self)
theorem pre_step {T g : List Nat} {dn : List (Sg × (Nat × Nat))} {o : Option Sg} {s : Sg} (h : Pre T dn o) (hs : s.ok) (hg : ∀ c ∈ g, c ∈ gpS) (ha : g = [] → apB o s = true) : Pre (T ++ g ++ s.txt) (dn ++ [(s, aft 1 1 (T ++ g))]) (some s) := by
  intro fin U ts hU hL
  have h2 := h fin (g ++ (s.txt ++ U)) ((s, aft 1 1 (T ++ g)) :: ts) (gap_head hg fun e c hc => by
    obtain ⟨x, r, ex, _⟩ := Sg.head hs
    refine apB_stop hs (ha e) c ?_
    rw [ex] at hc ⊢
    exact hc) (Lx_gaps g T hg (.tok _ s U ts hs hU hL))
  simpa [List.append_assoc] using h2
theorem pre_end {T g : List Nat} {dn : List (Sg × (Nat × Nat))} {o : Option Sg} (h : Pre T dn o) (hg : ∀ c ∈ g, c ∈ gpS) : Lx none [] (T ++ g) dn := by
  have h2 := h none (g ++ []) [] (gap_head hg fun _ c hc => by cases hc) (Lx_gaps g T hg (.done _ rfl))
  simpa using h2
theorem pre_bad {T g : List Nat} {dn : List (Sg × (Nat × Nat))} {o : Option Sg} {s : Bd} (h : Pre T dn o) (hs : s.ok) (hg : ∀ c ∈ g, c ∈ gpS) (hne : g ≠ []) : Lx (some s) [] (T ++ g ++ s.txt) dn := by
  have h2 := h (some s) (g ++ s.txt) [] (gap_head hg fun e => absurd e hne) (Lx_gaps g T hg (.bad _ s rfl hs))
  simpa [List.append_assoc] using h2
def gaps5 : List PyData := [.str "", .str " ", .str "  ", .str "\n", .str " \n "]
def gaps2 : List PyData := [.str " ", .str "\n"]
def gaps3 : List PyData := [.str "", .str " ", .str "\n\n"]
theorem gap_of {z : Str} (h : z.cps.toList.all (fun c => decide (c ∈ gpS)) = true) (hl : z.cps.toList.length ≤ 3) : ∃ g, PyData.str z = .str (sx g) ∧ (∀ c ∈ g, c ∈ gpS) ∧ g.length ≤ 3 ∧ g = z.cps.toList :=
  ⟨z.cps.toList, by rw [← sx_self], fun c hc => of_decide_eq_true (List.all_eq_true.mp h c hc), hl, rfl⟩
theorem gaps5_ok : ∀ d ∈ gaps5, ∃ g, d = .str (sx g) ∧ (∀ c ∈ g, c ∈ gpS) ∧ g.length ≤ 3 := by
  have key : ∀ z : Str, z.cps.toList.all (fun c => decide (c ∈ gpS)) = true → z.cps.toList.length ≤ 3 → ∃ g, PyData.str z = .str (sx g) ∧ (∀ c ∈ g, c ∈ gpS) ∧ g.length ≤ 3 := fun z a b => by
    obtain ⟨g, h1, h2, h3, _⟩ := gap_of a b
    exact ⟨g, h1, h2, h3⟩
  intro d hd
  unfold gaps5 at hd
  simp only [List.mem_cons, List.not_mem_nil, or_false] at hd
  rcases hd with rfl | rfl | rfl | rfl | rfl <;> exact key _ (by decide +kernel) (by decide +kernel)
theorem gaps3_ok : ∀ d ∈ gaps3, ∃ g, d = .str (sx g) ∧ (∀ c ∈ g, c ∈ gpS) ∧ g.length ≤ 3 := by
  have key : ∀ z : Str, z.cps.toList.all (fun c => decide (c ∈ gpS)) = true → z.cps.toList.length ≤ 3 → ∃ g, PyData.str z = .str (sx g) ∧ (∀ c ∈ g, c ∈ gpS) ∧ g.length ≤ 3 := fun z a b => by
    obtain ⟨g, h1, h2, h3, _⟩ := gap_of a b
    exact ⟨g, h1, h2, h3⟩
  intro d hd
  unfold gaps3 at hd
  simp only [List.mem_cons, List.not_mem_nil, or_false] at hd
  rcases hd with rfl | rfl | rfl <;> exact key _ (by decide +kernel) (by decide +kernel)
theorem gaps2_ok : ∀ d ∈ gaps2, ∃ g, d = .str (sx g) ∧ (∀ c ∈ g, c ∈ gpS) ∧ g.length ≤ 3 ∧ g ≠ [] := by
  intro d hd
  unfold gaps2 at hd
  simp only [List.mem_cons, List.not_mem_nil, or_false] at hd
  rcases hd with rfl | rfl
  · obtain ⟨g, h1, h2, h3, h4⟩ := gap_of (z := Str.ofString " ") (by decide +kernel) (by decide +kernel)
    exact ⟨g, h1, h2, h3, by rw [h4]; decide +kernel⟩
  · obtain ⟨g, h1, h2, h3, h4⟩ := gap_of (z := Str.ofString "\n") (by decide +kernel) (by decide +kernel)
    exact ⟨g, h1, h2, h3, by rw [h4]; decide +kernel⟩
theorem Sg.len {s : Sg} (h : s.ok) : s.txt.length ≤ 20 := by
  cases s with
  | wd w => exact h.2.2
  | nm w => exact Nat.le_trans h.2.2 (by omega)
  | qt q =>
    have h : q.length ≤ 5 := h
    have := dbl_le q
    show (34 :: (dbl q ++ [34])).length ≤ 20
    simp
    omega
  | sy c => show 1 ≤ 20; omega
section
variable {b : O} {l : List PyData}
theorem cl2 (h : IsBox b) : ClB [b, dL l] := by
  intro x hx
  simp only [List.mem_cons, List.not_mem_nil, or_false] at hx
  rcases hx with rfl | rfl
  · exact h.cl
  · exact clO_p
end
abbrev plL (p : Nat × Nat) : PyData := .list [.int p.1, .int p.2]
abbrev LV (ns : List Int) (T : List Nat) (o : Option Sg) (v3 v6 v7 v8 v9 v10 v11 : Option D) : DL.Env := [some (.scr ns), some (.ob 0), some (.p (.str (sx T))), v3, some (.ob 1), some (.p (lstP o)), v6, v7, v8, v9, v10, v11]
theorem cut_pre {l : List Nat} {k : Nat} : cutS (sx l) none (some ((k : Nat) : Int)) = sx (l.take k) := by
  have h := cut_mid l (a := 0) (b := k) (Nat.zero_le _)
  rw [List.drop_zero] at h
  rw [← h]
  unfold cutS
  rw [HT.sIx_none, HT.sIx_nat _ _ 0, Nat.zero_min]
theorem law_true (ns : List Int) (hl : ns.length ≤ 63) : ∃ S', G_law [.scr ns] [] = .ok (.bl true) S' := by
  refine WE_true ?_
  refine WE_defB (fun d _ => d = .bl true) ?_ (fun d S' h => ⟨_, [], S', h, rfl, rfl, clB_of (clS_nil), rfl⟩)
  rw [show start0 NN_law [.scr ns] = [some (.scr ns), none, none, none, none, none, none, none, none, none, none, none] from rfl]
  unfold B_law
  refine WS_cut (fun ρ S => ∃ b, IsBox b ∧ S = [b] ∧ ρ = [some (.scr ns), some (.ob 0), none, none, none, none, none, none, none, none, none, none]) ?_ ?_
  · simp -implicitDefEqProofs only [DL.wpW, reduceIte, Nat.reduceAdd, Nat.reduceLeDiff, DL.sFor_ap]
    refine digits_wp (lo := 0) (hi := 40) (clB_of clS_nil) (by decide) (by decide) fun dg => ?_
    simp -implicitDefEqProofs only [DL.wpW, reduceIte, Nat.reduceAdd, Nat.reduceLeDiff, DL.sFor_ap]
    exact ⟨_, ⟨dg, 0, rfl⟩, by trivial, by trivial⟩
  rintro ρ S ⟨b0, hb0, rfl, rfl⟩
  refine WS_cut (fun ρ S => S = [b0] ∧ ρ = [some (.scr ns), some (.ob 0), some (.p (.str (sx []))), none, none, none, none, none, none, none, none, none]) ?_ ?_
  · rw [emptyS]
    simp -implicitDefEqProofs only [DL.wpW, reduceIte, Nat.reduceAdd, Nat.reduceLeDiff, DL.sFor_ap]
    all_goals exact ⟨by trivial, by trivial⟩
  rintro ρ S ⟨rfl, rfl⟩
  refine WS_cut (fun ρ S => S = [b0] ∧ ρ = [some (.scr ns), some (.ob 0), some (.p (.str (sx []))), some (.p (plL (1, 1))), none, none, none, none, none, none, none, none]) ?_ ?_
  · simp -implicitDefEqProofs only [DL.wpW, reduceIte, Nat.reduceAdd, Nat.reduceLeDiff, DL.sFor_ap]
    all_goals exact ⟨by trivial, by trivial⟩
  rintro ρ S ⟨rfl, rfl⟩
  refine WS_cut (fun ρ S => S = [b0, dL []] ∧ ρ = [some (.scr ns), some (.ob 0), some (.p (.str (sx []))), some (.p (plL (1, 1))), some (.ob 1), none, none, none, none, none, none, none]) ?_ ?_
  · simp -implicitDefEqProofs only [DL.wpW, reduceIte, Nat.reduceAdd, Nat.reduceLeDiff, DL.sFor_ap]
    all_goals exact ⟨by trivial, by trivial⟩
  rintro ρ S ⟨rfl, rfl⟩
  refine WS_cut (fun ρ S => S = [b0, dL []] ∧ ρ = LV ns [] none (some (.p (plL (1, 1)))) none none none none none none) ?_ ?_
  · simp -implicitDefEqProofs only [DL.wpW, reduceIte, Nat.reduceAdd, Nat.reduceLeDiff, DL.sFor_ap]
    all_goals exact ⟨by trivial, by trivial⟩
  rintro ρ S ⟨rfl, rfl⟩
  have at0 : ∀ (b x : O), ([b, x] : Sto)[0]? = some b := fun _ _ => rfl
  have set0 : ∀ (b x b' : O), ([b, x] : Sto).set 0 b' = [b', x] := fun _ _ _ => rfl
  have at1 : ∀ (b x : O), ([b, x] : Sto)[1]? = some x := fun _ _ => rfl
  have set1 : ∀ (b x x' : O), ([b, x] : Sto).set 1 x' = [b, x'] := fun _ _ _ => rfl
  refine WS_cut (fun ρ S => ∃ b T dn o v6 v7 v9, IsBox b ∧ T.length ≤ 1000 ∧ dn.length ≤ 26 ∧ Pre T dn o ∧ S = [b, dL (dn.map tkP)] ∧ ρ = LV ns T o (some (.p (plL (aft 1 1 T)))) v6 v7 none v9 none none) ?_ ?_
  · simp -implicitDefEqProofs only [DL.wpW, reduceIte, Nat.reduceAdd, Nat.reduceLeDiff, DL.sFor_ap]
    refine draw_wp (at0 _ _) hb0 (by decide) (cl2 hb0) fun v b1 h0 h1 hb1 => ?_
    rw [set0]
    obtain ⟨v, rfl⟩ := Int.eq_ofNat_of_zero_le h0
    have bw : big62 (v : Int) = true := big62_nat (by omega)
    have tn : ((v : Int)).toNat = v := by omega
    simp -implicitDefEqProofs only [DL.wpW, reduceIte, Nat.reduceAdd, Nat.reduceLeDiff, DL.sFor_ap, bw, tn]
    refine WS_for (fun i ρ S => ∃ b T dn o v6 v7 v9, IsBox b ∧ T.length ≤ 30 * i ∧ dn.length = i ∧ Pre T dn o ∧ S = [b, dL (dn.map tkP)] ∧ ρ = LV ns T o (some (.p (plL (aft 1 1 T)))) v6 v7 none v9 none none) _ 0 _ _ ⟨b1, [], [], none, none, none, none, hb1, Nat.le_refl _, rfl, pre_nil, rfl, rfl⟩ ?_ ?_
    · rintro i d ρ S hd ⟨b2, T, dn, o, v6, v7, v9, hb2, hTl, hdl, hP, rfl, rfl⟩
      obtain ⟨hi, rfl⟩ := rngL_get hd
      simp only [gNm_ap, WE_ok, List.set_cons_succ, List.set_cons_zero]
      generalize (0 : Int) + (i : Int) = k
      have i0 : ∀ (s : Sg) (S : Sto), gIx (.p s.py) (.p (.int 0)) S = .ok (.p s.kd) S := fun _ _ => rfl
      have i1 : ∀ (s : Sg) (S : Sto), gIx (.p s.py) (.p (.int 1)) S = .ok (.p s.val) S := fun _ _ => rfl
      have i2 : ∀ (s : Sg) (S : Sto), gIx (.p s.py) (.p (.int 2)) S = .ok (.p (.str (sx s.txt))) S := fun _ _ => rfl
      have j0 : ∀ (p : Nat × Nat) (S : Sto), gIx (.p (plL p)) (.p (.int 0)) S = .ok (.p (.int p.1)) S := fun _ _ => rfl
      have j1 : ∀ (p : Nat × Nat) (S : Sto), gIx (.p (plL p)) (.p (.int 1)) S = .ok (.p (.int p.2)) S := fun _ _ => rfl
      generalize hpl : aft 1 1 T = p
      refine WS_cut (fun ρ S => ∃ (b : O) (s : Sg), IsBox b ∧ s.ok ∧ S = [b, dL (dn.map tkP)] ∧ ρ = LV ns T o (some (.p (plL p))) (some (.p (.int k))) v7 none (some (.p s.py)) none none) ?_ ?_
      · simp -implicitDefEqProofs only [DL.wpW, reduceIte, Nat.reduceAdd, Nat.reduceLeDiff, DL.sFor_ap]
        refine lawsign_wp (at0 _ _) hb2 (cl2 hb2) fun b3 s hb3 hs => ?_
        rw [set0]
        try simp -implicitDefEqProofs only [DL.wpW, reduceIte, Nat.reduceAdd, Nat.reduceLeDiff, DL.sFor_ap]
        exact ⟨b3, s, hb3, hs, by trivial, by trivial⟩
      rintro ρ S ⟨b3, s, hb3, hs, rfl, rfl⟩
      refine WS_cut (fun ρ S => ∃ b g, IsBox b ∧ (∀ c ∈ g, c ∈ gpS) ∧ g.length ≤ 3 ∧ S = [b, dL (dn.map tkP)] ∧ ρ = LV ns T o (some (.p (plL p))) (some (.p (.int k))) (some (.p (.str (sx g)))) none (some (.p s.py)) none none) ?_ ?_
      · simp -implicitDefEqProofs only [DL.wpW, reduceIte, Nat.reduceAdd, Nat.reduceLeDiff, DL.sFor_ap]
        refine draw_wp (at0 _ _) hb3 (by decide) (cl2 hb3) fun v b4 h0 h1 hb4 => ?_
        rw [set0]
        obtain ⟨d, hd1, hd2⟩ := gIx_l (l := gaps5) (S := [b4, dL (dn.map tkP)]) h0 h1
        obtain ⟨g, rfl, hg1, hg2⟩ := gaps5_ok d hd1
        unfold gaps5 at hd2
        simp -implicitDefEqProofs only [DL.wpW, reduceIte, Nat.reduceAdd, Nat.reduceLeDiff, DL.sFor_ap, hd2]
        exact ⟨b4, g, hb4, hg1, hg2, by trivial, by trivial⟩
      rintro ρ S ⟨b4, g0, hb4, hg01, hg02, rfl, rfl⟩
      refine WS_cut (fun ρ S => ∃ g, (∀ c ∈ g, c ∈ gpS) ∧ g.length ≤ 3 ∧ (g = [] → apB o s = true) ∧ S = [b4, dL (dn.map tkP)] ∧ ρ = LV ns T o (some (.p (plL p))) (some (.p (.int k))) (some (.p (.str (sx g)))) none (some (.p s.py)) none none) ?_ ?_
      · have spc : Str.ofString " " = sx [32] := by decide +kernel
        rw [spc]
        by_cases hg0 : g0 = []
        · have b1 : (sx g0 == Str.ofString "") = true := by rw [sx_eq (m := []) (by rw [emptyS])]; exact decide_eq_true hg0
          simp -implicitDefEqProofs only [DL.wpW, reduceIte, Nat.reduceAdd, Nat.reduceLeDiff, DL.sFor_ap, b1]
          refine apart_wp (cl2 hb4) ?_
          cases ha : apB o s with
          | true =>
            simp -implicitDefEqProofs only [DL.wpW, reduceIte, Nat.reduceAdd, Nat.reduceLeDiff, DL.sFor_ap]
            exact ⟨g0, hg01, hg02, fun _ => by trivial, by trivial, by trivial⟩
          | false =>
            simp -implicitDefEqProofs only [DL.wpW, reduceIte, Nat.reduceAdd, Nat.reduceLeDiff, DL.sFor_ap]
            exact ⟨[32], by decide +kernel, by decide, fun z => (by cases z), by trivial, by trivial⟩
        · have b1 : (sx g0 == Str.ofString "") = false := by rw [sx_eq (m := []) (by rw [emptyS])]; exact decide_eq_false hg0
          simp -implicitDefEqProofs only [DL.wpW, reduceIte, Nat.reduceAdd, Nat.reduceLeDiff, DL.sFor_ap, b1]
          exact ⟨g0, hg01, hg02, fun z => absurd z hg0, by trivial, by trivial⟩
      rintro ρ S ⟨g, hg1, hg2, hga, rfl, rfl⟩
      refine WS_cut (fun ρ S => S = [b4, dL (dn.map tkP)] ∧ ρ = LV ns T o (some (.p (plL (aft 1 1 (T ++ g))))) (some (.p (.int k))) (some (.p (.str (sx g)))) none (some (.p s.py)) none none) ?_ ?_
      · simp -implicitDefEqProofs only [DL.wpW, reduceIte, Nat.reduceAdd, Nat.reduceLeDiff, DL.sFor_ap]
        refine after_wp (cl2 hb4) ?_
        simp -implicitDefEqProofs only [DL.wpW, reduceIte, Nat.reduceAdd, Nat.reduceLeDiff, DL.sFor_ap]
        refine ⟨by trivial, ?_⟩
        rw [aft_app, hpl]
      rintro ρ S ⟨rfl, rfl⟩
      have hdL : (dn.map tkP).length < 16777216 := by
        rw [List.length_map, hdl]
        have : v < 26 := by omega
        omega
      refine WS_cut (fun ρ S => S = [b4, dL ((dn ++ [(s, aft 1 1 (T ++ g))]).map tkP)] ∧ ρ = LV ns T o (some (.p (plL (aft 1 1 (T ++ g))))) (some (.p (.int k))) (some (.p (.str (sx g)))) none (some (.p s.py)) none none) ?_ ?_
      · generalize aft 1 1 (T ++ g) = p2
        simp -implicitDefEqProofs only [DL.wpW, reduceIte, Nat.reduceAdd, Nat.reduceLeDiff, DL.sFor_ap, i0, i1, j0, j1, at1]
        rw [List.length_map, if_pos hdL, dL_snoc]
        exact ⟨by rw [List.map_append]; rfl, trivial⟩
      rintro ρ S ⟨rfl, rfl⟩
      have hsl := Sg.len hs
      refine WS_cut (fun ρ S => S = [b4, dL ((dn ++ [(s, aft 1 1 (T ++ g))]).map tkP)] ∧ ρ = LV ns T o (some (.p (plL (aft 1 1 (T ++ g ++ s.txt))))) (some (.p (.int k))) (some (.p (.str (sx g)))) none (some (.p s.py)) none none) ?_ ?_
      · generalize hp2 : aft 1 1 (T ++ g) = p2
        simp -implicitDefEqProofs only [DL.wpW, reduceIte, Nat.reduceAdd, Nat.reduceLeDiff, DL.sFor_ap, i2]
        refine after_wp (cl2 hb4) ?_
        simp -implicitDefEqProofs only [DL.wpW, reduceIte, Nat.reduceAdd, Nat.reduceLeDiff, DL.sFor_ap]
        refine ⟨by trivial, ?_⟩
        rw [aft_app, hp2]
      rintro ρ S ⟨rfl, rfl⟩
      have hi26 : v < 26 := by omega
      have ga1 := gAdd_sx (a := T) (b := g) (S := [b4, dL ((dn ++ [(s, aft 1 1 (T ++ g))]).map tkP)]) (by omega)
      have ga2 := gAdd_sx (a := T ++ g) (b := s.txt) (S := [b4, dL ((dn ++ [(s, aft 1 1 (T ++ g))]).map tkP)]) (by rw [List.length_append]; omega)
      simp -implicitDefEqProofs only [DL.wpW, reduceIte, Nat.reduceAdd, Nat.reduceLeDiff, DL.sFor_ap, i2, ga1, ga2]
      exact ⟨by trivial, b4, T ++ g ++ s.txt, dn ++ [(s, aft 1 1 (T ++ g))], some s, _, _, _, hb4, by rw [List.length_append, List.length_append]; omega, by rw [List.length_append, hdl]; rfl, pre_step hP hs hg1 hga, by trivial, by trivial⟩
    · rintro ρ S ⟨b2, T, dn, o, v6, v7, v9, hb2, hTl, hdl, hP, rfl, rfl⟩
      rw [rngL_len] at hTl hdl
      exact ⟨b2, T, dn, o, v6, v7, v9, hb2, by omega, by omega, hP, rfl, rfl⟩
  rintro ρ S ⟨b1, T, dn, o, v6, v7, v9, hb1, hTl, hdl, hP, rfl, rfl⟩
  have j0 : ∀ (p : Nat × Nat) (S : Sto), gIx (.p (plL p)) (.p (.int 0)) S = .ok (.p (.int p.1)) S := fun _ _ => rfl
  have j1 : ∀ (p : Nat × Nat) (S : Sto), gIx (.p (plL p)) (.p (.int 1)) S = .ok (.p (.int p.2)) S := fun _ _ => rfl
  refine WS_cut (fun ρ S => ∃ b, IsBox b ∧ S = [b, dL (dn.map tkP)] ∧ ρ = LV ns T o (some (.p (plL (aft 1 1 T)))) v6 v7 none v9 none none) ?_ ?_
  · rw [DL.sIf_ap, WS_lift]
    refine WE_mono (Q' := fun _ S' => ∃ b, IsBox b ∧ S' = [b, dL (dn.map tkP)]) (E' := fun _ _ => False) ?_ ?_ (fun _ _ z => z.elim)
    · simp -implicitDefEqProofs only [DL.wpW, reduceIte, Nat.reduceAdd, Nat.reduceLeDiff, DL.sFor_ap]
      refine draw_wp (at0 _ _) hb1 (by decide) (cl2 hb1) fun v b2 h0 h1 hb2 => ?_
      rw [set0]
      simp -implicitDefEqProofs only [DL.wpW, reduceIte, Nat.reduceAdd, Nat.reduceLeDiff, DL.sFor_ap]
      exact ⟨b2, hb2, by trivial⟩
    rintro bb S' ⟨b2, hb2, rfl⟩
    cases bb with
    | false =>
      simp only [Bool.false_eq_true, if_false]
      show WS (sNil _ _) _
      simp -implicitDefEqProofs only [DL.wpW, reduceIte, Nat.reduceAdd, Nat.reduceLeDiff, DL.sFor_ap]
      exact ⟨b2, hb2, by trivial, by trivial⟩
    | true =>
      simp only [if_true]
      generalize hpl : aft 1 1 T = p
      refine WS_cut (fun ρ S => ∃ b g, IsBox b ∧ (∀ c ∈ g, c ∈ gpS) ∧ g.length ≤ 3 ∧ g ≠ [] ∧ S = [b, dL (dn.map tkP)] ∧ ρ = LV ns T o (some (.p (plL p))) v6 (some (.p (.str (sx g)))) none v9 none none) ?_ ?_
      · simp -implicitDefEqProofs only [DL.wpW, reduceIte, Nat.reduceAdd, Nat.reduceLeDiff, DL.sFor_ap]
        refine draw_wp (at0 _ _) hb2 (by decide) (cl2 hb2) fun v b4 h0 h1 hb4 => ?_
        rw [set0]
        obtain ⟨d, hd1, hd2⟩ := gIx_l (l := gaps2) (S := [b4, dL (dn.map tkP)]) h0 h1
        obtain ⟨g, rfl, hg1, hg2, hg3⟩ := gaps2_ok d hd1
        unfold gaps2 at hd2
        simp -implicitDefEqProofs only [DL.wpW, reduceIte, Nat.reduceAdd, Nat.reduceLeDiff, DL.sFor_ap, hd2]
        exact ⟨b4, g, hb4, hg1, hg2, hg3, by trivial, by trivial⟩
      rintro ρ S ⟨b4, g, hb4, hg1, hg2, hg3, rfl, rfl⟩
      refine WS_cut (fun ρ S => ∃ (b : O) (s : Bd), IsBox b ∧ s.ok ∧ s.txt.length ≤ 100 ∧ S = [b, dL (dn.map tkP)] ∧ ρ = LV ns T o (some (.p (plL p))) v6 (some (.p (.str (sx g)))) none v9 (some (.p s.py)) none) ?_ ?_
      · simp -implicitDefEqProofs only [DL.wpW, reduceIte, Nat.reduceAdd, Nat.reduceLeDiff, DL.sFor_ap]
        refine spoilt_wp (at0 _ _) hb4 (cl2 hb4) fun b5 s hb5 hs hsl => ?_
        rw [set0]
        try simp -implicitDefEqProofs only [DL.wpW, reduceIte, Nat.reduceAdd, Nat.reduceLeDiff, DL.sFor_ap]
        exact ⟨b5, s, hb5, hs, hsl, by trivial, by trivial⟩
      rintro ρ S ⟨b5, s, hb5, hs, hsl, rfl, rfl⟩
      have i0 : ∀ (S : Sto), gIx (.p s.py) (.p (.int 0)) S = .ok (.p (.str (sx s.txt))) S := fun _ => rfl
      have i1 : ∀ (S : Sto), gIx (.p s.py) (.p (.int 1)) S = .ok (.p (.str s.rs)) S := fun _ => rfl
      have i2 : ∀ (S : Sto), gIx (.p s.py) (.p (.int 2)) S = .ok (.p (.int s.hd)) S := fun _ => rfl
      refine WS_cut (fun ρ S => S = [b5, dL (dn.map tkP)] ∧ ρ = LV ns T o (some (.p (plL (aft 1 1 (T ++ g))))) v6 (some (.p (.str (sx g)))) none v9 (some (.p s.py)) none) ?_ ?_
      · simp -implicitDefEqProofs only [DL.wpW, reduceIte, Nat.reduceAdd, Nat.reduceLeDiff, DL.sFor_ap]
        refine after_wp (cl2 hb5) ?_
        simp -implicitDefEqProofs only [DL.wpW, reduceIte, Nat.reduceAdd, Nat.reduceLeDiff, DL.sFor_ap]
        refine ⟨by trivial, ?_⟩
        rw [aft_app, hpl]
      rintro ρ S ⟨rfl, rfl⟩
      refine WS_cut (fun ρ S => S = [b5, dL (dn.map tkP)] ∧ ρ = LV ns T o (some (.p (plL (aft 1 1 (T ++ g))))) v6 (some (.p (.str (sx g)))) none v9 (some (.p s.py)) (some (.p (.int s.hd)))) ?_ ?_
      · simp -implicitDefEqProofs only [DL.wpW, reduceIte, Nat.reduceAdd, Nat.reduceLeDiff, DL.sFor_ap, i2]
        try exact ⟨by trivial, by trivial⟩
      rintro ρ S ⟨rfl, rfl⟩
      refine WS_cut (fun ρ S => S = [b5, dL (dn.map tkP)] ∧ ρ = LV ns T o (some (.p (plL (aft 1 1 (T ++ g))))) v6 (some (.p (.str (sx g)))) none v9 (some (.p s.py)) (some (.p (.int ((s.off : Nat) : Int))))) ?_ ?_
      · generalize aft 1 1 (T ++ g) = p2
        by_cases hq : s.hd < 0
        · have lt : (s.hd < 0) = True := eq_true hq
          have eo : s.off = s.txt.length := by
            cases s with
            | qt q => rfl
            | ch c => exact absurd (show (0 : Int) < 0 from hq) (by omega)
            | wd c => exact absurd (show (20 : Int) < 0 from hq) (by omega)
            | nm c => exact absurd (show (9 : Int) < 0 from hq) (by omega)
          simp -implicitDefEqProofs only [DL.wpW, reduceIte, Nat.reduceAdd, Nat.reduceLeDiff, DL.sFor_ap, lt, decide_true, i0, gLen_sx (show s.txt.length ≤ 16777216 by omega)]
          rw [eo]
          try exact ⟨by trivial, by trivial⟩
        · have lt : (s.hd < 0) = False := eq_false hq
          have eo : s.hd = ((s.off : Nat) : Int) := by
            cases s with
            | qt q => exact absurd (show (-1 : Int) < 0 by omega) hq
            | ch c => rfl
            | wd c => rfl
            | nm c => rfl
          simp -implicitDefEqProofs only [DL.wpW, reduceIte, Nat.reduceAdd, Nat.reduceLeDiff, DL.sFor_ap, lt, decide_false]
          rw [eo]
          try exact ⟨by trivial, by trivial⟩
      rintro ρ S ⟨rfl, rfl⟩
      have sl : gSl (.p (.str (sx s.txt))) none (some ((s.off : Nat) : Int)) [b5, dL (dn.map tkP)] = .ok (.p (.str (sx (s.txt.take s.off)))) [b5, dL (dn.map tkP)] := by
        rw [gSl_s, sx_len, sizeLine_val, if_pos (show s.txt.length ≤ 16777216 by omega), cut_pre]
      refine WS_cut (fun ρ S => S = [b5, dL (dn.map tkP)] ∧ ρ = LV ns T o (some (.p (plL (aft 1 1 (T ++ g ++ s.txt.take s.off))))) v6 (some (.p (.str (sx g)))) none v9 (some (.p s.py)) (some (.p (.int ((s.off : Nat) : Int))))) ?_ ?_
      · generalize hp2 : aft 1 1 (T ++ g) = p2
        simp -implicitDefEqProofs only [DL.wpW, reduceIte, Nat.reduceAdd, Nat.reduceLeDiff, DL.sFor_ap, i0, sl]
        refine after_wp (cl2 hb5) ?_
        simp -implicitDefEqProofs only [DL.wpW, reduceIte, Nat.reduceAdd, Nat.reduceLeDiff, DL.sFor_ap]
        refine ⟨by trivial, ?_⟩
        rw [aft_app, hp2]
      rintro ρ S ⟨rfl, rfl⟩
      have ga1 := gAdd_sx (a := T) (b := g) (S := [b5, dL (dn.map tkP)]) (by omega)
      have ga2 := gAdd_sx (a := T ++ g) (b := s.txt) (S := [b5, dL (dn.map tkP)]) (by rw [List.length_append]; omega)
      have hlen : (T ++ g ++ s.txt).length < 100000 := by rw [List.length_append, List.length_append]; omega
      have hfa : fltAt (T ++ g ++ s.txt) s = aft 1 1 (T ++ g ++ s.txt.take s.off) := by
        unfold fltAt
        rw [List.length_append, Nat.add_sub_cancel, List.take_left]
      have hact := actual_bad (t := T ++ g ++ s.txt) (p := fltAt (T ++ g ++ s.txt) s) (r := s.rs) (cl2 (l := dn.map tkP) hb5) (split_wp hlen (pre_bad hP hs hg1 hg3) (cl2 hb5) (fun z => by cases z) (fun s' z => by cases z; exact ⟨rfl, rfl⟩))
      rw [hfa] at hact
      generalize aft 1 1 (T ++ g ++ s.txt.take s.off) = p3 at hact
      have hsm := same_ok (cl2 (l := dn.map tkP) hb5) 4 (fltP p3 s.rs) ⟨by show 4 < _; omega, fun d hd => by
        simp only [List.mem_cons, List.not_mem_nil, or_false] at hd
        rcases hd with rfl | rfl | rfl | rfl <;> trivial⟩
      unfold fltP at hact hsm
      simp -implicitDefEqProofs only [DL.wpW, reduceIte, Nat.reduceAdd, Nat.reduceLeDiff, DL.sFor_ap, i0, ga1, ga2, hact, j0, j1, i1, hsm]
  rintro ρ S ⟨b2, hb2, rfl, rfl⟩
  refine WS_cut (fun ρ S => ∃ b g, IsBox b ∧ (∀ c ∈ g, c ∈ gpS) ∧ g.length ≤ 3 ∧ S = [b, dL (dn.map tkP)] ∧ ρ = LV ns T o (some (.p (plL (aft 1 1 T)))) v6 (some (.p (.str (sx g)))) none v9 none none) ?_ ?_
  · generalize aft 1 1 T = p
    simp -implicitDefEqProofs only [DL.wpW, reduceIte, Nat.reduceAdd, Nat.reduceLeDiff, DL.sFor_ap]
    refine draw_wp (at0 _ _) hb2 (by decide) (cl2 hb2) fun v b4 h0 h1 hb4 => ?_
    rw [set0]
    obtain ⟨d, hd1, hd2⟩ := gIx_l (l := gaps3) (S := [b4, dL (dn.map tkP)]) h0 h1
    obtain ⟨g, rfl, hg1, hg2⟩ := gaps3_ok d hd1
    unfold gaps3 at hd2
    simp -implicitDefEqProofs only [DL.wpW, reduceIte, Nat.reduceAdd, Nat.reduceLeDiff, DL.sFor_ap, hd2]
    exact ⟨b4, g, hb4, hg1, hg2, by trivial, by trivial⟩
  rintro ρ S ⟨b4, g, hb4, hg1, hg2, rfl, rfl⟩
  refine WS_cut (fun ρ S => S = [b4, dL (dn.map tkP)] ∧ ρ = LV ns T o (some (.p (plL (aft 1 1 (T ++ g))))) v6 (some (.p (.str (sx g)))) none v9 none none) ?_ ?_
  · generalize hpl : aft 1 1 T = p
    simp -implicitDefEqProofs only [DL.wpW, reduceIte, Nat.reduceAdd, Nat.reduceLeDiff, DL.sFor_ap]
    refine after_wp (cl2 hb4) ?_
    simp -implicitDefEqProofs only [DL.wpW, reduceIte, Nat.reduceAdd, Nat.reduceLeDiff, DL.sFor_ap]
    refine ⟨by trivial, ?_⟩
    rw [aft_app, hpl]
  rintro ρ S ⟨rfl, rfl⟩
  have hdL : (dn.map tkP).length < 16777216 := by rw [List.length_map]; omega
  refine WS_cut (fun ρ S => S = [b4, dL (dn.map tkP ++ [endP (aft 1 1 (T ++ g))])] ∧ ρ = LV ns T o (some (.p (plL (aft 1 1 (T ++ g))))) v6 (some (.p (.str (sx g)))) none v9 none none) ?_ ?_
  · generalize aft 1 1 (T ++ g) = p2
    simp -implicitDefEqProofs only [DL.wpW, reduceIte, Nat.reduceAdd, Nat.reduceLeDiff, DL.sFor_ap, j0, j1, at1]
    rw [List.length_map, if_pos hdL, dL_snoc]
    exact ⟨rfl, trivial⟩
  rintro ρ S ⟨rfl, rfl⟩
  have ga1 := gAdd_sx (a := T) (b := g) (S := [b4, dL (dn.map tkP ++ [endP (aft 1 1 (T ++ g))])]) (by omega)
  have hlen : (T ++ g).length < 100000 := by rw [List.length_append]; omega
  have hact := actual_ok (t := T ++ g) (l := dn.map tkP ++ [endP (aft 1 1 (T ++ g))]) (cl2 (l := dn.map tkP ++ [endP (aft 1 1 (T ++ g))]) hb4) (split_wp hlen (pre_end hP hg1) (cl2 hb4) (fun _ => ⟨rfl, rfl⟩) (fun s' z => by cases z))
  have hkd : ∀ s : Sg, kindOk 2 s.kd ∧ kindOk 2 s.val := fun s => by cases s <;> exact ⟨trivial, trivial⟩
  have hsm := same_ok (cl2 (l := dn.map tkP ++ [endP (aft 1 1 (T ++ g))]) hb4) 4 (.tuple (dn.map tkP ++ [endP (aft 1 1 (T ++ g))])) ⟨by rw [List.length_append, List.length_map]; simp; omega, fun d hd => by
    rcases List.mem_append.mp hd with h | h
    · obtain ⟨x, _, rfl⟩ := List.mem_map.mp h
      refine ⟨by show 4 < _; omega, fun d hd => ?_⟩
      simp only [List.mem_cons, List.not_mem_nil, or_false] at hd
      rcases hd with rfl | rfl | rfl | rfl
      · exact (hkd x.1).1
      · exact (hkd x.1).2
      · trivial
      · trivial
    · rw [List.mem_singleton.mp h]
      refine ⟨by show 4 < _; omega, fun d hd => ?_⟩
      simp only [List.mem_cons, List.not_mem_nil, or_false] at hd
      rcases hd with rfl | rfl | rfl | rfl <;> trivial⟩
  generalize dn.map tkP ++ [endP (aft 1 1 (T ++ g))] = L at ga1 hact hsm
  generalize aft 1 1 (T ++ g) = p2
  refine WS_cut (fun ρ S => S = [b4, dL L] ∧ ρ = LV ns T o (some (.p (plL p2))) v6 (some (.p (.str (sx g)))) (some (.p (.list L))) v9 none none) ?_ ?_
  · simp -implicitDefEqProofs only [DL.wpW, reduceIte, Nat.reduceAdd, Nat.reduceLeDiff, DL.sFor_ap, ga1, hact]
    all_goals exact ⟨by trivial, by trivial⟩
  rintro ρ S ⟨rfl, rfl⟩
  have gt1 : gToTup [.p (.list L)] [b4, dL L] = .ok (.p (.tuple L)) [b4, dL L] := rfl
  have gt2 : gToTup [.ob 1] [b4, dL L] = .ok (.p (.tuple L)) [b4, dL L] := by
    have e : vList [b4, dL L] (.ob 1) = some L := by
      have e' : ([b4, dL L] : Sto)[1]? = some (.lst (L.map .p)) := rfl
      unfold vList
      simp only [e', pAll_map]
    unfold gToTup
    simp only [e]
  have kl : kitB "list" "list" = some true := by decide +kernel
  have tl : tyD [b4, dL L] (.p (.list L)) = some "list" := rfl
  simp -implicitDefEqProofs only [DL.wpW, reduceIte, Nat.reduceAdd, Nat.reduceLeDiff, DL.sFor_ap, tl, kl, gt1, gt2, hsm]
  try trivial
end My
open PySem PySem.W PySem.Calls PyProof.Rows
theorem PySem.Challenge.cw_surelyread_k02_signs_holds : PySem.Challenge.rw_surelyread_k02_signs.Holds := by
  w_on; o_law
  refine HandSHeadRun.head_any (r := PySem.W.OpenLaw.row PySem.Challenge.rw_surelyread_k02_signs) (q := PySem.W.view (PySem.W.OpenLaw.row PySem.Challenge.rw_surelyread_k02_signs).prog [38]) (H := My.hkD) (ob := DL.obM 4 My.faD My.fnsD My.moreD) (M := 6000) (loose := My.namesD) (d := HandSHeadRun.topDef (PySem.W.OpenLaw.row PySem.Challenge.rw_surelyread_k02_signs).prog 38) (kwd := []) DL.obM_eq
    (by kernel_rfl) (fun s => by kernel_rfl) My.runD (by kernel_rfl) (by kernel_rfl) (by kernel_rfl) (by rfl) (by first | assumption | decide +kernel) (by decide +kernel) ⟨rfl, rfl, rfl, rfl, rfl, by decide +kernel⟩ ?hw ?hc
  case hw => w_witness2
  case hc =>
    refine L2.walk_ofE (l := PySem.Challenge.rw_surelyread_k02_signs) (n := 63) (k := 7) (x := "script") (CX := L2.CX0) rfl (by rw [PySem.sizeLine_eq]; decide) (by kernel_rfl) ⟨rfl, by decide, by decide⟩ ?F (fun _ _ _ _ z => z)
    intro w mg fa h Y G hmg0
    obtain ⟨K, KX, c, cm⟩ := Y
    have hmg : mg ("law" : PySem.Str) = some (.ref fa) := by
      have e : (HandSHeadRun.topDef (PySem.W.OpenLaw.row PySem.Challenge.rw_surelyread_k02_signs).prog 38).name = ("law" : PySem.Str) := by kernel_rfl
      rw [← e]
      exact hmg0
    obtain ⟨f, fd, e1, U, _⟩ := My.all_fns (P := (PySem.Challenge.rw_surelyread_k02_signs).prog) (w := w) (base := h) KX G c cm
    have b := L2.FunD.bindsA (ps := ["script"]) U fun _ _ _ _ _ _ us hl => match us, hl with | [_], _ => rfl
    have fe : f = fa := by
      have z := e1.symm.trans hmg
      cases z
      rfl
    subst fe
    refine ⟨K, fd, DL.spOf K mg 1 (fun ds S => DL.noEx (My.G_law ds S)), KX, fun s v => b s [v] rfl, fun H a ns hl hO hS => ?_, fun base kb nb => ?_⟩
    · obtain ⟨S', e⟩ := My.law_true ns hl
      exact DL.law_sp hO hS e
    · obtain ⟨f2, fd2, e2, U2, F2⟩ := My.all_fns (P := (PySem.Challenge.rw_surelyread_k02_signs).prog) (w := w) (base := base) KX G c cm
      have z := e2.symm.trans hmg
      cases z
      have zz : fd2 = fd := DL.funS_same U2 U
      subst zz
      exact F2
