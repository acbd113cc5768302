import PyProof.Rows.All
import Wide.All
import OpenK.AllK
import Wide.FinOn
import KE.KStateDown
import HandS.ForMost
import HandS.ForExc
import HandS.IsInst
import HandS.Flow
import HandS.DictComp
import HandS.Conv
import HandS.Zip
import HandS.Rev
import HandS.TupAny
import HandS.Style
import HandS.SortKw
import HandS.Head0
import HandS.Head1
import HandS.Head2
import HandS.HeadEnd
import HandS.HeadHook1
import HandS.HeadHook2
import HandS.Defaults
import PyProof.AutoSeq1
import HandS.SetFor
import KE.KDictZip
import HandS.SetKeys
import HandS.ExcOwn
import HandS.TryOnly
import HandS.ExcIs
import PySem.Challenge.RW_ruleswood_k13_not_met
set_option Elab.async false
set_option linter.all false
set_option maxRecDepth 100000
set_option maxHeartbeats 4000000
namespace DL
open PySem L2

/-! data without a heap: tuples by their items, the rest by a number -/
inductive D where
  | non | bl (b : Bool) | int (i : Int) | str (x : Str) | tup (ds : List D) | loc (n : Nat) | ty (n : String) | cls (a : Addr) | rol (ds : List D)
inductive MO where
  | lst (ds : List D) | dic (kvs : List (Key × D)) | ins (C : Addr) (fs : List (Str × D)) | fdic (kvs : List (Key × D))
instance : Inhabited D := ⟨.non⟩
instance : Inhabited MO := ⟨.lst []⟩
abbrev Mem := List MO

/-- a list that is read alone -/
def SqR (K : PySem.W.Frag) (H : Hp) (a : Addr) (vs : List V) : Prop := (∃ o, H a = some (.frz o (.lst vs))) ∨
    ∃ (o : Obj) (its : Array Value) (n : Nat), K.lookup a = some o ∧ o.cls = .type "list" ∧ o.dict = none ∧ o.data = .seq its n ∧ its.size ≤ sizeLine ∧ Vals vs its.toList
section
variable (K : PySem.W.Frag) (m : List Addr) (H : Hp)
mutual
def RD : D → V → Prop
  | .non, v => v = .non
  | .bl b, v => v = .bl b
  | .int i, v => v = .int i
  | .str x, v => v = .str x
  | .tup ds, v => ∃ a vs, v = .ref a ∧ SqT K H a vs ∧ RDs ds vs
  | .rol ds, v => ∃ a vs, v = .ref a ∧ SqR K H a vs ∧ RDs ds vs
  | .loc n, v => ∃ a, v = .ref a ∧ m[n]? = some a
  | .ty n, v => v = .ty n
  | .cls a, v => v = .ref a
def RDs : List D → List V → Prop
  | [], vs => vs = []
  | d :: ds, vs => ∃ v ws, vs = v :: ws ∧ RD d v ∧ RDs ds ws
end
def RKV {κ : Type} : List (κ × D) → List (κ × V) → Prop
  | [], ws => ws = []
  | p :: r, ws => ∃ v s, ws = (p.1, v) :: s ∧ RD K m H p.2 v ∧ RKV r s
def RO : MO → Addr → Prop
  | .lst ds, a => ∃ vs, H a = some (.lst vs) ∧ RDs K m H ds vs
  | .dic kvs, a => ∃ ws, H a = some (.dK ws) ∧ RKV K m H kvs ws
  | .fdic kvs, a => ∃ ob ws, H a = some (.frz ob (.dK ws)) ∧ RKV K m H kvs ws
  | .ins C fs, a => ∃ dx ws, H a = some (.ins C dx ws) ∧ RKV K m H fs ws
end
structure RM (K : PySem.W.Frag) (m : List Addr) (H : Hp) (M : Mem) : Prop where
  len : m.length = M.length
  nd : m.Nodup
  ob : ∀ (n : Nat) (o : MO), M[n]? = some o → ∃ a, m[n]? = some a ∧ RO K m H o a

/-- what stays -/
structure Grow (m : List Addr) (H : Hp) (m' : List Addr) (H' : Hp) : Prop where
  pre : m <+: m'
  fresh : ∀ b, b ∈ m' → b ∉ m → H b = none
  keep : ∀ b o, H b = some o → b ∉ m → H' b = some o
  frz : ∀ b o u, H b = some (.frz o u) → H' b = some (.frz o u)
  tup : ∀ b xs, H b = some (.tup xs) → H' b = some (.tup xs)

section
variable {K : PySem.W.Frag} {m m' m'' : List Addr} {H H' H'' : Hp} {M M' : Mem} {a b p : Addr} {d : D} {ds : List D} {v : V} {vs : List V} {o : MO} {n : Nat}
theorem Grow.refl : Grow m H m H := ⟨List.prefix_refl _, fun _ h h' => absurd h h', fun _ _ h _ => h, fun _ _ _ h => h, fun _ _ h => h⟩
theorem Grow.trans (g : Grow m H m' H') (g' : Grow m' H' m'' H'') : Grow m H m'' H'' where
  pre := List.IsPrefix.trans g.pre g'.pre
  fresh := fun b hb hn => by
    by_cases h : b ∈ m'
    · exact g.fresh b h hn
    · cases q : H b with
      | none => rfl
      | some o =>
        have := g'.fresh b hb h
        rw [g.keep b o q hn] at this
        cases this
  keep := fun b o h hn => by
    have h1 := g.keep b o h hn
    by_cases hb : b ∈ m'
    · have := g.fresh b hb hn
      rw [h] at this
      cases this
    · exact g'.keep b o h1 hb
  frz := fun b o u h => g'.frz b o u (g.frz b o u h)
  tup := fun b xs h => g'.tup b xs (g.tup b xs h)
theorem get_pre (h : m <+: m') (e : m[n]? = some a) : m'[n]? = some a := by
  obtain ⟨t, rfl⟩ := h
  rw [List.getElem?_append_left (List.getElem?_eq_some_iff.mp e).1]
  exact e
structure TupStay (K : PySem.W.Frag) (H H' : Hp) : Prop where
  tu : ∀ b xs, SqT K H b xs → SqT K H' b xs
  ro : ∀ b xs, SqR K H b xs → SqR K H' b xs
theorem TupStay.of (ht : ∀ b xs, H b = some (.tup xs) → H' b = some (.tup xs)) (hf : ∀ b o u, H b = some (.frz o u) → H' b = some (.frz o u)) : TupStay K H H' where
  tu := fun b xs h => by
    rcases h with (h | ⟨o, h⟩) | h
    · exact .inl (.inl (ht _ _ h))
    · exact .inl (.inr ⟨o, hf _ _ _ h⟩)
    · exact .inr h
  ro := fun b xs h => by
    rcases h with ⟨o, h⟩ | h
    · exact .inl ⟨o, hf _ _ _ h⟩
    · exact .inr h
theorem Grow.tups (g : Grow m H m' H') : TupStay K H H' := .of g.tup g.frz
mutual
theorem RD.mono (h : m <+: m') (t : TupStay K H H') : ∀ {d : D} {v : V}, RD K m H d v → RD K m' H' d v
  | .non, _, q => by unfold RD at q ⊢; exact q
  | .bl _, _, q => by unfold RD at q ⊢; exact q
  | .int _, _, q => by unfold RD at q ⊢; exact q
  | .str _, _, q => by unfold RD at q ⊢; exact q
  | .ty _, _, q => by unfold RD at q ⊢; exact q
  | .cls _, _, q => by unfold RD at q ⊢; exact q
  | .loc _, _, q => by
    unfold RD at q ⊢
    obtain ⟨a, e, r⟩ := q
    exact ⟨a, e, get_pre h r⟩
  | .tup ds, _, q => by
    unfold RD at q ⊢
    obtain ⟨a, vs, e, s, r⟩ := q
    exact ⟨a, vs, e, t.tu _ _ s, RDs.mono h t r⟩
  | .rol ds, _, q => by
    unfold RD at q ⊢
    obtain ⟨a, vs, e, s, r⟩ := q
    exact ⟨a, vs, e, t.ro _ _ s, RDs.mono h t r⟩
theorem RDs.mono (h : m <+: m') (t : TupStay K H H') : ∀ {ds : List D} {vs : List V}, RDs K m H ds vs → RDs K m' H' ds vs
  | [], _, q => by unfold RDs at q ⊢; exact q
  | d :: ds, _, q => by
    unfold RDs at q ⊢
    obtain ⟨v, ws, e, r, s⟩ := q
    exact ⟨v, ws, e, RD.mono h t r, RDs.mono h t s⟩
end
theorem RKV.mono {κ : Type} (h : m <+: m') (t : TupStay K H H') : ∀ {ds : List (κ × D)} {vs : List (κ × V)}, RKV K m H ds vs → RKV K m' H' ds vs
  | [], _, q => q
  | d :: ds, _, q => by
    obtain ⟨v, ws, e, r, s⟩ := q
    exact ⟨v, ws, e, RD.mono h t r, RKV.mono h t s⟩
theorem RD.grow (g : Grow m H m' H') (q : RD K m H d v) : RD K m' H' d v := q.mono g.pre g.tups
theorem RDs.grow (g : Grow m H m' H') (q : RDs K m H ds vs) : RDs K m' H' ds vs := q.mono g.pre g.tups
theorem SqR.sql (h : SqR K H a vs) : SqL K H a vs := by
  rcases h with h | h
  · exact .inl (.inr h)
  · exact .inr h
/-- the slots that the cells name stand -/
theorem RM.at (r : RM K m H M) (e : M[n]? = some o) (ea : m[n]? = some a) : RO K m H o a := by
  obtain ⟨b, eb, q⟩ := r.ob n o e
  rw [ea] at eb
  cases eb
  exact q
theorem nd_ix (hN : m.Nodup) {i j : Nat} (x : m[i]? = some a) (y : m[j]? = some a) : i = j := by
  obtain ⟨hi, ei⟩ := List.getElem?_eq_some_iff.mp x
  obtain ⟨hj, ej⟩ := List.getElem?_eq_some_iff.mp y
  exact (List.getElem_inj hN).mp (ei.trans ej.symm)
theorem RM.some_of (r : RM K m H M) (ea : m[n]? = some a) : ∃ o, M[n]? = some o := by
  have h := (List.getElem?_eq_some_iff.mp ea).1
  rw [r.len] at h
  exact ⟨_, List.getElem?_eq_getElem h⟩
theorem RO.there (r : RO K m H o a) : ∃ u, H a = some u ∧ (Mut (some u) ∨ ∃ ob w, u = .frz ob (.dK w)) := by
  cases o with
  | lst _ => obtain ⟨_, e, _⟩ := r; exact ⟨_, e, .inl trivial⟩
  | dic _ => obtain ⟨_, e, _⟩ := r; exact ⟨_, e, .inl trivial⟩
  | ins _ _ => obtain ⟨_, _, e, _⟩ := r; exact ⟨_, e, .inl trivial⟩
  | fdic _ => obtain ⟨_, _, e, _⟩ := r; exact ⟨_, e, .inr ⟨_, _, rfl⟩⟩
theorem RM.in_mem (r : RM K m H M) (h : a ∈ m) : ∃ u, H a = some u ∧ (Mut (some u) ∨ ∃ ob w, u = .frz ob (.dK w)) := by
  obtain ⟨n, e⟩ := List.getElem?_of_mem h
  obtain ⟨o, eo⟩ := r.some_of e
  exact (r.at eo e).there
/-- a fresh place is no cell -/
theorem RM.not_mem (r : RM K m H M) (h : H p = none) : p ∉ m := fun q => by
  obtain ⟨u, e, _⟩ := r.in_mem q
  rw [h] at e
  cases e
/-- a cell that is kept: its object where the places stay -/
theorem RO.mono (h : m <+: m') (t : TupStay K H H') (k : ∀ u, H a = some u → H' a = some u) (q : RO K m H o a) : RO K m' H' o a := by
  cases o with
  | lst ds => obtain ⟨vs, e, r⟩ := q; exact ⟨vs, k _ e, r.mono h t⟩
  | dic kvs => obtain ⟨vs, e, r⟩ := q; exact ⟨vs, k _ e, r.mono h t⟩
  | ins C fs => obtain ⟨dx, vs, e, r⟩ := q; exact ⟨dx, vs, k _ e, r.mono h t⟩
  | fdic kvs => obtain ⟨ob, vs, e, r⟩ := q; exact ⟨ob, vs, k _ e, r.mono h t⟩
/-- a new object that no cell names -/
theorem Grow.new {ho : HO} (hp : H p = none) : Grow m H m (upd H p ho) where
  pre := List.prefix_refl _
  fresh := fun _ h h' => absurd h h'
  keep := fun b o e _ => by rw [upd_ne (ne_of_none e hp)]; exact e
  frz := fun b o u e => by rw [upd_ne (ne_of_none e hp)]; exact e
  tup := fun b xs e => by rw [upd_ne (ne_of_none e hp)]; exact e
theorem RM.new {ho : HO} (r : RM K m H M) (hp : H p = none) : RM K m (upd H p ho) M where
  len := r.len
  nd := r.nd
  ob := fun n o e => by
    obtain ⟨a, ea, q⟩ := r.ob n o e
    exact ⟨a, ea, q.mono (List.prefix_refl _) (Grow.new (m := m) hp).tups fun u e => by rw [upd_ne (ne_of_none e hp)]; exact e⟩
/-- a new cell -/
theorem Grow.cell {ho : HO} (hp : H p = none) : Grow m H (m ++ [p]) (upd H p ho) where
  pre := List.prefix_append _ _
  fresh := fun b h h' => by
    have e : b = p := by simpa [h'] using h
    rw [e]; exact hp
  keep := (Grow.new (m := m) (ho := ho) hp).keep
  frz := (Grow.new (m := m) (ho := ho) hp).frz
  tup := (Grow.new (m := m) (ho := ho) hp).tup
theorem RM.cell {ho : HO} {o : MO} (r : RM K m H M) (hp : H p = none) (q : RO K (m ++ [p]) (upd H p ho) o p) : RM K (m ++ [p]) (upd H p ho) (M ++ [o]) where
  len := by simp [r.len]
  nd := by
    rw [List.nodup_append]
    refine ⟨r.nd, by simp, fun a ha b hb e => ?_⟩
    have eb : b = p := by simpa using hb
    rw [eb] at e
    rw [e] at ha
    exact r.not_mem hp ha
  ob := fun n u e => by
    by_cases hn : n < M.length
    · rw [List.getElem?_append_left hn] at e
      obtain ⟨a, ea, q⟩ := r.ob n u e
      exact ⟨a, by rw [List.getElem?_append_left (by rw [r.len]; exact hn)]; exact ea, q.mono (List.prefix_append _ _) (Grow.new (m := m) hp).tups fun u e => by rw [upd_ne (ne_of_none e hp)]; exact e⟩
    · have hn2 : n = M.length := by
        have := (List.getElem?_eq_some_iff.mp e).1
        simp at this
        omega
      subst hn2
      have eu : o = u := by simpa using e
      subst eu
      exact ⟨p, by rw [← r.len]; simp, q⟩
/-- a cell is written -/
theorem Grow.put {ho : HO} {n : Nat} (r : RM K m H M) (ea : m[n]? = some a) (hmu : Mut (H a)) : Grow m H m (upd H a ho) where
  pre := List.prefix_refl _
  fresh := fun _ h h' => absurd h h'
  keep := fun b o e hb => by
    have hne : b ≠ a := fun z => by rw [z] at hb; exact hb (List.mem_of_getElem? ea)
    rw [upd_ne hne]; exact e
  frz := fun b o u e => by
    have hne : b ≠ a := fun z => by
      rw [← z, e] at hmu
      exact hmu
    rw [upd_ne hne]; exact e
  tup := fun b u e => by
    have hne : b ≠ a := fun z => by
      rw [← z, e] at hmu
      exact hmu
    rw [upd_ne hne]; exact e
theorem RM.put {ho : HO} {o : MO} {n : Nat} (r : RM K m H M) (ea : m[n]? = some a) (hmu : Mut (H a)) (q : RO K m (upd H a ho) o a) : RM K m (upd H a ho) (M.set n o) where
  len := by simp [r.len]
  nd := r.nd
  ob := fun j u e => by
    by_cases hj : j = n
    · subst hj
      have hl : j < M.length := by rw [← r.len]; exact (List.getElem?_eq_some_iff.mp ea).1
      rw [List.getElem?_set_self hl] at e
      cases e
      exact ⟨a, ea, q⟩
    · rw [List.getElem?_set_ne (fun z => hj z.symm)] at e
      obtain ⟨b, eb, q⟩ := r.ob j u e
      have hne : b ≠ a := fun z => hj (nd_ix r.nd (z ▸ eb) ea)
      exact ⟨b, eb, q.mono (List.prefix_refl _) (Grow.put (ho := ho) r ea hmu).tups fun u e => by rw [upd_ne hne]; exact e⟩
end
end DL
namespace DL
open PySem L2

abbrev Rho := List (Option D)
abbrev QD := D → Mem → Prop
abbrev DTE := Rho → Mem → QD → Prop
abbrev DTT := Rho → Mem → (Bool → Mem → Prop) → Prop
abbrev DTA := Rho → Mem → (List D → Mem → Prop) → Prop
structure DEnds where
  nx : Rho → Mem → Prop
  rt : QD
  bk : Rho → Mem → Prop := fun _ _ => False
  ct : Rho → Mem → Prop := fun _ _ => False
abbrev DTS := DEnds → Rho → Mem → Prop

/-- the context and where the def began -/
structure Zx where
  X : Cx
  m0 : List Addr
  H0 : Hp

structure RS (z : Zx) (m : List Addr) (r : Rho) (M : Mem) (σ : L2.St) (H : Hp) : Prop where
  g : Grow z.m0 z.H0 m H
  rm : RM z.X.K m H M
  len : r.length = σ.length
  sl : ∀ (i : Nat) (d : D), r[i]? = some (some d) → ∃ v, σ[i]? = some (some v) ∧ RD z.X.K m H d v
section
variable {z : Zx} {m m' : List Addr} {r : Rho} {M M' : Mem} {σ : L2.St} {H H' : Hp}
theorem RS.grow (s : RS z m r M σ H) (g : Grow m H m' H') (q : RM z.X.K m' H' M') : RS z m' r M' σ H' where
  g := s.g.trans g
  rm := q
  len := s.len
  sl := fun i d e => by
    obtain ⟨v, ev, rv⟩ := s.sl i d e
    exact ⟨v, ev, rv.grow g⟩
theorem RS.set (s : RS z m r M σ H) {i : Nat} {d : D} {v : V} (q : RD z.X.K m H d v) : RS z m (r.set i (some d)) M (σ.set i (some v)) H where
  g := s.g
  rm := s.rm
  len := by simp [s.len]
  sl := fun j e h => by
    by_cases hj : j = i
    · subst hj
      have hl : j < r.length := by
        have := (List.getElem?_eq_some_iff.mp h).1
        simpa using this
      rw [List.getElem?_set_self hl] at h
      cases h
      exact ⟨v, by rw [List.getElem?_set_self (by rw [← s.len]; exact hl)], q⟩
    · rw [List.getElem?_set_ne (fun z => hj z.symm)] at h
      obtain ⟨w, e1, e2⟩ := s.sl j e h
      exact ⟨w, by rw [List.getElem?_set_ne (fun z => hj z.symm)]; exact e1, e2⟩
end

/-- what follows, told without the heap -/
def Then (K : PySem.W.Frag) (m : List Addr) (H : Hp) (Qd : QD) (Q : VK) : Prop := ∀ d M' m' v H', Qd d M' → Grow m H m' H' → RM K m' H' M' → RD K m' H' d v → Q v H'
def ThenT (K : PySem.W.Frag) (m : List Addr) (H : Hp) (Qd : Bool → Mem → Prop) (Q : Bool → Hp → Prop) : Prop := ∀ b M' m' H', Qd b M' → Grow m H m' H' → RM K m' H' M' → Q b H'
def ThenA (K : PySem.W.Frag) (m : List Addr) (H : Hp) (Qd : List D → Mem → Prop) (Q : List V → Hp → Prop) : Prop := ∀ ds M' m' vs H', Qd ds M' → Grow m H m' H' → RM K m' H' M' → RDs K m' H' ds vs → Q vs H'
theorem Then.grow {K m H m' H' Qd Q} (t : Then K m H Qd Q) (g : Grow m H m' H') : Then K m' H' Qd Q := fun d M1 m1 v H1 q g1 r1 d1 => t d M1 m1 v H1 q (g.trans g1) r1 d1
theorem ThenT.grow {K m H m' H' Qd Q} (t : ThenT K m H Qd Q) (g : Grow m H m' H') : ThenT K m' H' Qd Q := fun d M1 m1 H1 q g1 r1 => t d M1 m1 H1 q (g.trans g1) r1
theorem ThenA.grow {K m H m' H' Qd Q} (t : ThenA K m H Qd Q) (g : Grow m H m' H') : ThenA K m' H' Qd Q := fun d M1 m1 v H1 q g1 r1 d1 => t d M1 m1 v H1 q (g.trans g1) r1 d1

def LE (z : Zx) (te : TE) (t : DTE) : Prop := ∀ m r M σ H Q Qd, RS z m r M σ H → t r M Qd → Then z.X.K m H Qd Q → te σ H Q
def LT (z : Zx) (te : TT) (t : DTT) : Prop := ∀ m r M σ H Q Qd, RS z m r M σ H → t r M Qd → ThenT z.X.K m H Qd Q → te σ H Q
def LA (z : Zx) (te : TA) (t : DTA) : Prop := ∀ m r M σ H Q Qd, RS z m r M σ H → t r M Qd → ThenA z.X.K m H Qd Q → te σ H Q
def DE (z : Zx) (e : Expr) (t : DTE) : Prop := ∃ te, PE z.X e te ∧ LE z te t
def DT (z : Zx) (e : Expr) (t : DTT) : Prop := ∃ te, PT z.X e te ∧ LT z te t
def DW (z : Zx) (e : Expr) (t : DTT) : Prop := ∃ te, PW z.X e te ∧ LT z te t
def DA (z : Zx) (es : List Expr) (t : DTA) : Prop := ∃ te, PA z.X es te ∧ LA z te t

/-! ### operators by values -/
abbrev DR2 := D → D → Mem → QD → Prop
def LR2 (K : PySem.W.Frag) (rr : R2) (rd : DR2) : Prop := ∀ m M H x y dx dy Q Qd, RM K m H M → RD K m H dx x → RD K m H dy y → rd dx dy M Qd → Then K m H Qd Q → rr x y H Q
def DOp (z : Zx) (f : Value → Value → Sem Value) (rd : DR2) : Prop := ∃ rr, OpR z.X f rr ∧ LR2 z.X.K rr rd
abbrev DRA := List D → Mem → QD → Prop
def LRA (K : PySem.W.Frag) (rr : List V → Hp → VK → Prop) (rd : DRA) : Prop := ∀ m M H vs ds Q Qd, RM K m H M → RDs K m H ds vs → rd ds M Qd → Then K m H Qd Q → rr vs H Q
def DCall (z : Zx) (f : Value) (rd : DRA) : Prop := ∃ rr, CallR z.X f rr ∧ LRA z.X.K rr rd
abbrev DRU := D → Mem → QD → Prop
def LRU (K : PySem.W.Frag) (rr : V → Hp → VK → Prop) (rd : DRU) : Prop := ∀ m M H x dx Q Qd, RM K m H M → RD K m H dx x → rd dx M Qd → Then K m H Qd Q → rr x H Q

section
variable {z : Zx} {a b c e : Expr} {es : List Expr} {ta tb tc te : DTE} {tt tu : DTT} {tas : DTA} {pos : Pos}

def dVar (i : Nat) : DTE := fun r M Q => match r[i]? with
  | some (some d) => Q d M
  | _ => False
theorem de_var (i : Nat) {x : Str} (hN : z.X.N[i]? = some x := by rfl) (hv : Vis z.X.env.scope x := by first | exact Or.inl rfl | exact Or.inr (Or.inl rfl) | exact Or.inr (Or.inr rfl)) (hd : (x == ("__debug__" : Str)) = false := by decide)
    (hcd : (x == ("__classdict__" : Str)) = false := by decide) : DE z (.Name x pos) (dVar i) := by
  refine ⟨_, pe_var hN hv hd hcd, fun m r M σ H Q Qd s h t => ?_⟩
  unfold dVar at h
  split at h
  · rename_i d hd
    obtain ⟨v, ev, rv⟩ := s.sl i d hd
    exact ⟨v, ev, t _ _ _ _ _ h .refl s.rm rv⟩
  · exact h.elim
def dC (d : D) : DTE := fun _ M Q => Q d M
theorem le_c {d : D} {v : V} (h : ∀ m H, RD z.X.K m H d v) : LE z (tC v) (dC d) := fun m r M σ H Q Qd s q t => t _ _ _ _ _ q .refl s.rm (h _ _)
theorem de_int {i j} : DE z (.Constant (.int i) j pos) (dC (.int i)) := ⟨_, pe_int, le_c fun _ _ => by unfold RD; rfl⟩
theorem de_bl {i j} : DE z (.Constant (.bool i) j pos) (dC (.bl i)) := ⟨_, pe_bl, le_c fun _ _ => by unfold RD; rfl⟩
theorem de_non {j} : DE z (.Constant .none j pos) (dC .non) := ⟨_, pe_non, le_c fun _ _ => by unfold RD; rfl⟩
theorem de_str {x j} : DE z (.Constant (.str x) j pos) (dC (.str x)) := ⟨_, pe_str, le_c fun _ _ => by unfold RD; rfl⟩
/-- a module's class, def -/
theorem de_cls {x : Str} {C : Addr} (hm : z.X.mg x = some (.ref C)) (hg : Gl z.X x := by rfl) (hd : (x == ("__debug__" : Str)) = false := by decide) : DE z (.Name x pos) (dC (.cls C)) := ⟨_, pe_glob hg hm (v := .ref C) rfl hd, le_c fun _ _ => by unfold RD; rfl⟩
/-- a module's number -/
theorem de_gint {x : Str} {i : Int} {t : Tok} (hm : z.X.mg x = some (.int i t)) (hg : Gl z.X x := by rfl) (hd : (x == ("__debug__" : Str)) = false := by decide) : DE z (.Name x pos) (dC (.int i)) := ⟨_, pe_glob hg hm (v := .int i) ⟨_, rfl⟩ hd, le_c fun _ _ => by unfold RD; rfl⟩
theorem de_gstr {x : Str} {i : Str} {t : Tok} (hm : z.X.mg x = some (.str i t)) (hg : Gl z.X x := by rfl) (hd : (x == ("__debug__" : Str)) = false := by decide) : DE z (.Name x pos) (dC (.str i)) := ⟨_, pe_glob hg hm (v := .str i) ⟨_, rfl⟩ hd, le_c fun _ _ => by unfold RD; rfl⟩
/-- a builtin class by its name -/
theorem de_ty {x : Str} {n : String} (hm : z.X.mg x = none) (hv : bootBuiltins x = some (.type n)) (hg : Gl z.X x := by rfl) (hn : x ≠ "__name__" := by decide) (hd : (x == ("__debug__" : Str)) = false := by decide) : DE z (.Name x pos) (dC (.ty n)) :=
  ⟨_, pe_bltn hg hm hv (v := .ty n) rfl hn hd, le_c fun _ _ => by unfold RD; rfl⟩

def dBin (rd : DR2) (ta tb : DTE) : DTE := fun r M Q => ta r M fun x M1 => tb r M1 fun y M2 => rd x y M2 Q
theorem le_bin {rr : R2} {rd : DR2} {wa wb : TE} (h : LR2 z.X.K rr rd) (ha : LE z wa ta) (hb : LE z wb tb) : LE z (tOp rr wa wb) (dBin rd ta tb) := fun m r M σ H Q Qd s q t =>
  ha m r M σ H _ _ s q fun x M1 m1 v H1 q1 g1 r1 d1 => hb m1 r M1 σ H1 _ _ (s.grow g1 r1) q1 fun y M2 m2 w H2 q2 g2 r2 d2 =>
    h m2 M2 H2 v w x y Q Qd r2 (d1.grow g2) d2 q2 (t.grow (g1.trans g2))
theorem de_bin {op : Operator} {rd : DR2} (h : DOp z (binaryOp op) rd) (ha : DE z a ta) (hb : DE z b tb) : DE z (.BinOp a op b pos) (dBin rd ta tb) := by
  obtain ⟨rr, o, l⟩ := h
  obtain ⟨wa, pa, la⟩ := ha
  obtain ⟨wb, pb, lb⟩ := hb
  exact ⟨_, pe_op o pa pb, le_bin l la lb⟩
theorem de_cmp {op : CmpOp} {rd : DR2} (h : DOp z (compareOp op) rd) (ha : DE z a ta) (hb : DE z b tb) (hm : behindInMarks op b = false := by first | exact nomark _ | rfl) : DE z (.Compare a [op] [b] pos) (dBin rd ta tb) := by
  obtain ⟨rr, o, l⟩ := h
  obtain ⟨wa, pa, la⟩ := ha
  obtain ⟨wb, pb, lb⟩ := hb
  exact ⟨_, pe_cmpR o pa pb hm, le_bin l la lb⟩
def dTest (ta : DTE) : DTT := fun r M Q => ta r M fun x M1 => match x with
  | .bl k => Q k M1
  | _ => False
theorem dt_cmp {op : CmpOp} {rd : DR2} (h : DOp z (compareOp op) rd) (ha : DE z a ta) (hb : DE z b tb) (hm : behindInMarks op b = false := by first | exact nomark _ | rfl) : DT z (.Compare a [op] [b] pos) (dTest (dBin rd ta tb)) := by
  obtain ⟨rr, o, l⟩ := h
  obtain ⟨wa, pa, la⟩ := ha
  obtain ⟨wb, pb, lb⟩ := hb
  refine ⟨_, pt_cmpR o pa pb hm, fun m r M σ H Q Qd s q t => ?_⟩
  refine le_bin l la lb m r M σ H _ _ s q fun x M1 m1 v H1 q1 g1 r1 d1 => ?_
  split at q1
  · unfold RD at d1
    exact ⟨_, d1, t _ _ _ _ q1 g1 r1⟩
  · exact q1.elim
/-! chains of two comparisons -/
def dChain (rd rd' : DR2) (ta tb tc : DTE) : DTE := fun r M Q => ta r M fun x M1 => tb r M1 fun y M2 => rd x y M2 fun w M3 => match w with
  | .bl true => tc r M3 fun u M4 => rd' y u M4 Q
  | .bl false => Q (.bl false) M3
  | _ => False
theorem le_chain {rr rr' : R2} {rd rd' : DR2} {wa wb wc : TE} (h : LR2 z.X.K rr rd) (h' : LR2 z.X.K rr' rd') (ha : LE z wa ta) (hb : LE z wb tb) (hc : LE z wc tc) : LE z (tChain rr rr' wa wb wc) (dChain rd rd' ta tb tc) := fun m r M σ H Q Qd s q t =>
  ha m r M σ H _ _ s q fun x M1 m1 v H1 q1 g1 r1 d1 => hb m1 r M1 σ H1 _ _ (s.grow g1 r1) q1 fun y M2 m2 w H2 q2 g2 r2 d2 => by
    refine h m2 M2 H2 v w x y _ _ r2 (d1.grow g2) d2 q2 fun k M3 m3 u H3 q3 g3 r3 d3 => ?_
    split at q3
    · unfold RD at d3
      refine ⟨true, d3, ?_⟩
      rw [if_pos rfl]
      exact hc m3 r M3 σ H3 _ _ (s.grow ((g1.trans g2).trans g3) r3) q3 fun y4 M4 m4 v4 H4 q4 g4 r4 d4 =>
        h' m4 M4 H4 w v4 y y4 Q Qd r4 (d2.grow (g3.trans g4)) d4 q4 (t.grow (((g1.trans g2).trans g3).trans g4))
    · unfold RD at d3
      refine ⟨false, d3, ?_⟩
      rw [if_neg (by decide)]
      exact t _ _ _ _ _ q3 ((g1.trans g2).trans g3) r3 (by unfold RD; rfl)
    · exact q3.elim
theorem de_chain {op op' : CmpOp} {rd rd' : DR2} (h : DOp z (compareOp op) rd) (h' : DOp z (compareOp op') rd') (ha : DE z a ta) (hb : DE z b tb) (hc : DE z c tc)
    (hm : lastMarks [op, op'] [b, c] = false := by with_unfolding_all rfl) : DE z (.Compare a [op, op'] [b, c] pos) (dChain rd rd' ta tb tc) := by
  obtain ⟨rr, o, l⟩ := h
  obtain ⟨rr', o', l'⟩ := h'
  obtain ⟨wa, pa, la⟩ := ha
  obtain ⟨wb, pb, lb⟩ := hb
  obtain ⟨wc, pc, lc⟩ := hc
  exact ⟨_, pe_chain o o' pa pb pc hm, le_chain l l' la lb lc⟩
theorem lt_test {w : TE} (h : LE z w ta) : LT z (tTest w) (dTest ta) := fun m r M σ H Q Qd s q t => by
  refine h m r M σ H _ _ s q fun x M1 m1 v H1 q1 g1 r1 d1 => ?_
  split at q1
  · unfold RD at d1
    exact ⟨_, d1, t _ _ _ _ q1 g1 r1⟩
  · exact q1.elim
theorem dt_chain {op op' : CmpOp} {rd rd' : DR2} (h : DOp z (compareOp op) rd) (h' : DOp z (compareOp op') rd') (ha : DE z a ta) (hb : DE z b tb) (hc : DE z c tc)
    (hm : lastMarks [op, op'] [b, c] = false := by with_unfolding_all rfl) : DT z (.Compare a [op, op'] [b, c] pos) (dTest (dChain rd rd' ta tb tc)) := by
  obtain ⟨rr, o, l⟩ := h
  obtain ⟨rr', o', l'⟩ := h'
  obtain ⟨wa, pa, la⟩ := ha
  obtain ⟨wb, pb, lb⟩ := hb
  obtain ⟨wc, pc, lc⟩ := hc
  exact ⟨_, pt_chain o o' pa pb pc hm, lt_test (le_chain l l' la lb lc)⟩

/-! ### truth -/
def truD (x : D) (M : Mem) (Q : Bool → Prop) : Prop := match x with
  | .non => Q false
  | .bl b => Q b
  | .int i => Q (i != 0)
  | .str y => y.length ≤ sizeLine ∧ Q ((y.length : Int) != 0)
  | .tup ds => Q (!ds.isEmpty)
  | .rol ds => Q (!ds.isEmpty)
  | .loc n => (match M[n]? with
    | some (.lst ds) => Q (!ds.isEmpty)
    | some (.dic kvs) => Q (!kvs.isEmpty)
    | _ => False)
  | _ => False
theorem RDs.isEmpty {K m H} : ∀ {ds : List D} {vs : List V}, RDs K m H ds vs → vs.isEmpty = ds.isEmpty
  | [], _, h => by unfold RDs at h; subst h; rfl
  | _ :: _, _, h => by
    unfold RDs at h
    obtain ⟨v, ws, rfl, _⟩ := h
    rfl
theorem RDs.length {K m H} : ∀ {ds : List D} {vs : List V}, RDs K m H ds vs → vs.length = ds.length
  | [], _, h => by unfold RDs at h; subst h; rfl
  | _ :: ds, _, h => by
    unfold RDs at h
    obtain ⟨v, ws, rfl, _, h⟩ := h
    simp [RDs.length h]
theorem RKV.length {κ : Type} {K m H} : ∀ {ds : List (κ × D)} {vs : List (κ × V)}, RKV K m H ds vs → vs.length = ds.length
  | [], _, h => by unfold RKV at h; subst h; rfl
  | _ :: ds, _, h => by
    unfold RKV at h
    obtain ⟨v, ws, rfl, _, h⟩ := h
    simp [RKV.length h]
theorem RKV.isEmpty {κ : Type} {K m H} : ∀ {ds : List (κ × D)} {vs : List (κ × V)}, RKV K m H ds vs → vs.isEmpty = ds.isEmpty
  | [], _, h => by unfold RKV at h; subst h; rfl
  | _ :: _, _, h => by
    unfold RKV at h
    obtain ⟨v, ws, rfl, _⟩ := h
    rfl
theorem RM.loc {K m H M} (r : RM K m H M) {n : Nat} {v : V} {o : MO} (d : RD K m H (.loc n) v) (e : M[n]? = some o) : ∃ a, v = .ref a ∧ m[n]? = some a ∧ RO K m H o a := by
  unfold RD at d
  obtain ⟨a, rfl, ea⟩ := d
  exact ⟨a, rfl, ea, r.at e ea⟩
theorem tru_of {K m H M} {x : D} {v : V} {Q : Bool → Prop} (r : RM K m H M) (d : RD K m H x v) (h : truD x M Q) : ∃ k, TruV K v H k ∧ Q k := by
  unfold truD at h
  split at h
  · unfold RD at d; subst d; exact ⟨_, rfl, h⟩
  · unfold RD at d; subst d; exact ⟨_, rfl, h⟩
  · unfold RD at d; subst d; exact ⟨_, rfl, h⟩
  · unfold RD at d; subst d; exact ⟨_, ⟨h.1, rfl⟩, h.2⟩
  · unfold RD at d
    obtain ⟨a, vs, rfl, s, q⟩ := d
    exact ⟨_, .inr (.inl ⟨vs, s, rfl⟩), by rw [q.isEmpty]; exact h⟩
  · unfold RD at d
    obtain ⟨a, vs, rfl, s, q⟩ := d
    exact ⟨_, .inl ⟨vs, s.sql, rfl⟩, by rw [q.isEmpty]; exact h⟩
  · split at h
    · rename_i e
      obtain ⟨a, rfl, _, vs, e, q⟩ := r.loc d e
      exact ⟨_, .inl ⟨vs, SqL.of e, rfl⟩, by rw [q.isEmpty]; exact h⟩
    · rename_i e
      obtain ⟨a, rfl, _, vs, e, q⟩ := r.loc d e
      exact ⟨_, .inr (.inr ⟨vs, e, rfl⟩), by rw [q.isEmpty]; exact h⟩
    · exact h.elim
  · exact h.elim
def dTru (ta : DTE) : DTT := fun r M Q => ta r M fun x M1 => truD x M1 fun k => Q k M1
theorem dt_e (ha : DE z a ta) (he : ∀ whole, isTrue a z.X.env whole = (do let v ← whole; standAt a.pos; holding [v] (truthy v)) := by intro _; rfl) : DT z a (dTru ta) := by
  obtain ⟨wa, pa, la⟩ := ha
  refine ⟨_, pt_truth pa he, fun m r M σ H Q Qd s q t => ?_⟩
  refine la m r M σ H _ _ s q fun x M1 m1 v H1 q1 g1 r1 d1 => ?_
  obtain ⟨k, e, q2⟩ := tru_of r1 d1 q1
  exact ⟨k, e, t _ _ _ _ q2 g1 r1⟩
def dNotT (ta : DTT) : DTT := fun r M Q => ta r M fun k M1 => Q (!k) M1
theorem dt_not (h : DT z a tt) : DT z (.UnaryOp .Not a pos) (dNotT tt) := by
  obtain ⟨wa, pa, la⟩ := h
  exact ⟨_, pt_not pa, fun m r M σ H Q Qd s q t => la m r M σ H _ _ s q fun k M1 m1 H1 q1 g1 r1 => t _ _ _ _ q1 g1 r1⟩
def dAndT (ta tb : DTT) : DTT := fun r M Q => ta r M fun k M1 => match k with
  | true => tb r M1 Q
  | false => Q false M1
def dOrT (ta tb : DTT) : DTT := fun r M Q => ta r M fun k M1 => match k with
  | true => Q true M1
  | false => tb r M1 Q
theorem dw_and1 (h : DT z a tt) : DW z (.BoolOp .And [a] pos) tt := by
  obtain ⟨wa, pa, la⟩ := h
  exact ⟨_, pw_and1 pa, la⟩
theorem dw_or1 (h : DT z a tt) : DW z (.BoolOp .Or [a] pos) tt := by
  obtain ⟨wa, pa, la⟩ := h
  exact ⟨_, pw_or1 pa, la⟩
theorem dw_and {rest : List Expr} (h : DT z a tt) (h' : DW z (.BoolOp .And (b :: rest) pos) tu) : DW z (.BoolOp .And (a :: b :: rest) pos) (dAndT tt tu) := by
  obtain ⟨wa, pa, la⟩ := h
  obtain ⟨wb, pb, lb⟩ := h'
  refine ⟨_, pw_and pa pb, fun m r M σ H Q Qd s q t => la m r M σ H _ _ s q fun k M1 m1 H1 q1 g1 r1 => ?_⟩
  cases k with
  | true => rw [if_pos rfl]; exact lb m1 r M1 σ H1 _ _ (s.grow g1 r1) q1 (t.grow g1)
  | false => rw [if_neg (by decide)]; exact t _ _ _ _ q1 g1 r1
theorem dw_or {rest : List Expr} (h : DT z a tt) (h' : DW z (.BoolOp .Or (b :: rest) pos) tu) : DW z (.BoolOp .Or (a :: b :: rest) pos) (dOrT tt tu) := by
  obtain ⟨wa, pa, la⟩ := h
  obtain ⟨wb, pb, lb⟩ := h'
  refine ⟨_, pw_or pa pb, fun m r M σ H Q Qd s q t => la m r M σ H _ _ s q fun k M1 m1 H1 q1 g1 r1 => ?_⟩
  cases k with
  | true => rw [if_pos rfl]; exact t _ _ _ _ q1 g1 r1
  | false => rw [if_neg (by decide)]; exact lb m1 r M1 σ H1 _ _ (s.grow g1 r1) q1 (t.grow g1)
theorem dt_w (h : DW z a tt) : DT z a tt := by
  obtain ⟨wa, pa, la⟩ := h
  exact ⟨_, pa.pt, la⟩
/-! as values, by truth -/
def dAndV (ta tb : DTE) : DTE := fun r M Q => ta r M fun x M1 => truD x M1 fun k => match k with
  | true => tb r M1 Q
  | false => Q x M1
def dOrV (ta tb : DTE) : DTE := fun r M Q => ta r M fun x M1 => truD x M1 fun k => match k with
  | true => Q x M1
  | false => tb r M1 Q
def dNotV (ta : DTE) : DTE := fun r M Q => ta r M fun x M1 => truD x M1 fun k => Q (.bl (!k)) M1
theorem de_one {op} (h : DE z a ta) : DE z (.BoolOp op [a] pos) ta := by
  obtain ⟨wa, pa, la⟩ := h
  exact ⟨_, pe_one pa, la⟩
theorem de_and {rest : List Expr} (h : DE z a ta) (h' : DE z (.BoolOp .And (b :: rest) pos) tb) : DE z (.BoolOp .And (a :: b :: rest) pos) (dAndV ta tb) := by
  obtain ⟨wa, pa, la⟩ := h
  obtain ⟨wb, pb, lb⟩ := h'
  refine ⟨_, pe_andT pa pb, fun m r M σ H Q Qd s q t => la m r M σ H _ _ s q fun x M1 m1 v H1 q1 g1 r1 d1 => ?_⟩
  obtain ⟨k, e, q2⟩ := tru_of r1 d1 q1
  refine ⟨k, e, ?_⟩
  cases k with
  | true => rw [if_pos rfl]; exact lb m1 r M1 σ H1 _ _ (s.grow g1 r1) q2 (t.grow g1)
  | false => rw [if_neg (by decide)]; exact t _ _ _ _ _ q2 g1 r1 d1
theorem de_or {rest : List Expr} (h : DE z a ta) (h' : DE z (.BoolOp .Or (b :: rest) pos) tb) : DE z (.BoolOp .Or (a :: b :: rest) pos) (dOrV ta tb) := by
  obtain ⟨wa, pa, la⟩ := h
  obtain ⟨wb, pb, lb⟩ := h'
  refine ⟨_, pe_orT pa pb, fun m r M σ H Q Qd s q t => la m r M σ H _ _ s q fun x M1 m1 v H1 q1 g1 r1 d1 => ?_⟩
  obtain ⟨k, e, q2⟩ := tru_of r1 d1 q1
  refine ⟨k, e, ?_⟩
  cases k with
  | true => rw [if_pos rfl]; exact t _ _ _ _ _ q2 g1 r1 d1
  | false => rw [if_neg (by decide)]; exact lb m1 r M1 σ H1 _ _ (s.grow g1 r1) q2 (t.grow g1)
theorem de_not (h : DE z a ta) : DE z (.UnaryOp .Not a pos) (dNotV ta) := by
  obtain ⟨wa, pa, la⟩ := h
  refine ⟨_, pe_notT pa, fun m r M σ H Q Qd s q t => la m r M σ H _ _ s q fun x M1 m1 v H1 q1 g1 r1 d1 => ?_⟩
  obtain ⟨k, e, q2⟩ := tru_of r1 d1 q1
  exact ⟨k, e, t _ _ _ _ _ q2 g1 r1 (by unfold RD; rfl)⟩
def dIf (tt : DTT) (ta tb : DTE) : DTE := fun r M Q => tt r M fun k M1 => match k with
  | true => ta r M1 Q
  | false => tb r M1 Q
theorem de_if (h : DT z c tt) (ha : DE z a ta) (hb : DE z b tb) : DE z (.IfExp c a b pos) (dIf tt ta tb) := by
  obtain ⟨wc, pc, lc⟩ := h
  obtain ⟨wa, pa, la⟩ := ha
  obtain ⟨wb, pb, lb⟩ := hb
  refine ⟨_, pe_ifExp pc pa pb, fun m r M σ H Q Qd s q t => lc m r M σ H _ _ s q fun k M1 m1 H1 q1 g1 r1 => ?_⟩
  cases k with
  | true => rw [if_pos rfl]; exact la m1 r M1 σ H1 _ _ (s.grow g1 r1) q1 (t.grow g1)
  | false => rw [if_neg (by decide)]; exact lb m1 r M1 σ H1 _ _ (s.grow g1 r1) q1 (t.grow g1)

/-! ### argument lists, displays -/
def dNil : DTA := fun _ M Q => Q [] M
def dCons (ta : DTE) (tr : DTA) : DTA := fun r M Q => ta r M fun x M1 => tr r M1 fun xs M2 => Q (x :: xs) M2
theorem da_nil : DA z [] dNil := ⟨_, pa_nil, fun m r M σ H Q Qd s q t => t _ _ _ _ _ q .refl s.rm (by unfold RDs; rfl)⟩
theorem da_cons (h : DE z a ta) (h' : DA z es tas) (hs : starEach (a :: es) z.X.env = (false, eval a z.X.env) :: starEach es z.X.env := by rfl) : DA z (a :: es) (dCons ta tas) := by
  obtain ⟨wa, pa, la⟩ := h
  obtain ⟨wb, pb, lb⟩ := h'
  refine ⟨_, pa_cons pa pb hs, fun m r M σ H Q Qd s q t => la m r M σ H _ _ s q fun x M1 m1 v H1 q1 g1 r1 d1 => ?_⟩
  exact lb m1 r M1 σ H1 _ _ (s.grow g1 r1) q1 fun xs M2 m2 vs H2 q2 g2 r2 d2 => t _ _ _ _ _ q2 (g1.trans g2) r2 (by unfold RDs; exact ⟨v, vs, rfl, d1.grow g2, d2⟩)
def dTup (ta : DTA) : DTE := fun r M Q => ta r M fun xs M1 => xs.length ≤ sizeLine ∧ Q (.tup xs) M1
def dLst (ta : DTA) : DTE := fun r M Q => ta r M fun xs M1 => xs.length ≤ sizeLine ∧ Q (.loc M1.length) (M1 ++ [.lst xs])
theorem new_tup {K m H M} {xs : List D} {vs : List V} {Q : VK} {Qd : QD} {p : Addr} (r : RM K m H M) (d : RDs K m H xs vs) (hp : H p = none) (q : Qd (.tup xs) M) (t : Then K m H Qd Q) : Q (.ref p) (upd H p (.tup vs)) := by
  refine t _ _ _ _ _ q (Grow.new hp) (r.new hp) ?_
  unfold RD
  exact ⟨p, vs, rfl, SqT.of upd_same, d.grow (Grow.new hp)⟩
theorem new_cell {K m H M} {o : MO} {ho : HO} {Q : VK} {Qd : QD} {p : Addr} (r : RM K m H M) (hp : H p = none) (d : RO K (m ++ [p]) (upd H p ho) o p) (q : Qd (.loc M.length) (M ++ [o])) (t : Then K m H Qd Q) : Q (.ref p) (upd H p ho) := by
  refine t _ _ _ _ _ q (Grow.cell hp) (r.cell hp d) ?_
  unfold RD
  exact ⟨p, rfl, by rw [← r.len]; simp⟩
theorem new_lst {K m H M} {xs : List D} {vs : List V} {Q : VK} {Qd : QD} {p : Addr} (r : RM K m H M) (d : RDs K m H xs vs) (hp : H p = none) (q : Qd (.loc M.length) (M ++ [.lst xs])) (t : Then K m H Qd Q) : Q (.ref p) (upd H p (.lst vs)) :=
  new_cell (o := .lst xs) r hp ⟨vs, upd_same, d.grow (Grow.cell hp)⟩ q t
theorem de_tup {x1} (h : DA z es tas) : DE z (.Tuple es x1 pos) (dTup tas) := by
  obtain ⟨wa, pa, la⟩ := h
  refine ⟨_, pe_tup pa, fun m r M σ H Q Qd s q t => la m r M σ H _ _ s q fun xs M1 m1 vs H1 q1 g1 r1 d1 => ⟨by rw [d1.length]; exact q1.1, fun p hp => ?_⟩⟩
  exact new_tup r1 d1 hp q1.2 (t.grow g1)
theorem de_lst (h : DA z es tas) : DE z (.List es pos) (dLst tas) := by
  obtain ⟨wa, pa, la⟩ := h
  refine ⟨_, pe_lst pa, fun m r M σ H Q Qd s q t => la m r M σ H _ _ s q fun xs M1 m1 vs H1 q1 g1 r1 d1 => ⟨by rw [d1.length]; exact q1.1, fun p hp => ?_⟩⟩
  exact new_lst r1 d1 hp q1.2 (t.grow g1)
def dNewDict : DTE := fun _ M Q => Q (.loc M.length) (M ++ [.dic []])
theorem de_dict0 : DE z (.Dict [] [] pos) dNewDict := ⟨_, pe_dnewK, fun m r M σ H Q Qd s q t p hp => new_cell (o := .dic []) s.rm hp ⟨[], upd_same, by unfold RKV; rfl⟩ q t⟩
end
end DL
namespace DL
open PySem L2

/-! ### operators on values -/
section
variable {z : Zx} {K : PySem.W.Frag} {m : List Addr} {H : Hp} {M : Mem}
theorem RD.int_ {i : Int} {v : V} (d : RD K m H (.int i) v) : v = .int i := by unfold RD at d; exact d
theorem RD.bl_ {i : Bool} {v : V} (d : RD K m H (.bl i) v) : v = .bl i := by unfold RD at d; exact d
theorem RD.str_ {i : Str} {v : V} (d : RD K m H (.str i) v) : v = .str i := by unfold RD at d; exact d
theorem RD.non_ {v : V} (d : RD K m H .non v) : v = .non := by unfold RD at d; exact d
theorem RD.ty_ {n : String} {v : V} (d : RD K m H (.ty n) v) : v = .ty n := by unfold RD at d; exact d
theorem RD.cls_ {n : Addr} {v : V} (d : RD K m H (.cls n) v) : v = .ref n := by unfold RD at d; exact d
theorem RD.tup_ {ds : List D} {v : V} (d : RD K m H (.tup ds) v) : ∃ a vs, v = .ref a ∧ SqT K H a vs ∧ RDs K m H ds vs := by unfold RD at d; exact d
theorem RD.rol_ {ds : List D} {v : V} (d : RD K m H (.rol ds) v) : ∃ a vs, v = .ref a ∧ SqR K H a vs ∧ RDs K m H ds vs := by unfold RD at d; exact d
theorem RD.int' {i : Int} : RD K m H (.int i) (.int i) := by unfold RD; rfl
theorem RD.bl' {i : Bool} : RD K m H (.bl i) (.bl i) := by unfold RD; rfl
theorem RD.str' {i : Str} : RD K m H (.str i) (.str i) := by unfold RD; rfl
theorem RD.non' : RD K m H .non .non := by unfold RD; rfl
theorem RD.tup' {ds : List D} {a : Addr} {vs : List V} (h : SqT K H a vs) (q : RDs K m H ds vs) : RD K m H (.tup ds) (.ref a) := by unfold RD; exact ⟨a, vs, rfl, h, q⟩
theorem RDs.nil' : RDs K m H [] [] := by unfold RDs; rfl
theorem RDs.cons' {d : D} {ds : List D} {v : V} {vs : List V} (h : RD K m H d v) (q : RDs K m H ds vs) : RDs K m H (d :: ds) (v :: vs) := by unfold RDs; exact ⟨v, vs, rfl, h, q⟩
theorem RDs.cons_ {d : D} {ds : List D} {vs : List V} (h : RDs K m H (d :: ds) vs) : ∃ v ws, vs = v :: ws ∧ RD K m H d v ∧ RDs K m H ds ws := by unfold RDs at h; exact h
theorem RDs.nil_ {vs : List V} (h : RDs K m H [] vs) : vs = [] := by unfold RDs at h; exact h
theorem RDs.append {ds es : List D} : ∀ {vs ws : List V}, RDs K m H ds vs → RDs K m H es ws → RDs K m H (ds ++ es) (vs ++ ws) := by
  induction ds with
  | nil => intro vs ws h1 h2; rw [h1.nil_]; exact h2
  | cons d ds ih =>
    intro vs ws h1 h2
    obtain ⟨v, us, rfl, hd, hs⟩ := h1.cons_
    exact RDs.cons' hd (ih hs h2)
theorem RDs.get {ds : List D} : ∀ {vs : List V} {i : Nat} {d : D}, RDs K m H ds vs → ds[i]? = some d → ∃ v, vs[i]? = some v ∧ RD K m H d v := by
  induction ds with
  | nil => intro vs i d _ e; simp at e
  | cons d ds ih =>
    intro vs i d' h e
    obtain ⟨v, us, rfl, hd, hs⟩ := h.cons_
    cases i with
    | zero => simp at e; subst e; exact ⟨v, by simp, hd⟩
    | succ i => simp at e; obtain ⟨w, e1, e2⟩ := ih hs e; exact ⟨w, by simpa using e1, e2⟩
theorem RDs.set {ds : List D} : ∀ {vs : List V} {i : Nat} {d : D} {v : V}, RDs K m H ds vs → RD K m H d v → RDs K m H (ds.set i d) (vs.set i v) := by
  induction ds with
  | nil => intro vs i d v h _; rw [h.nil_]; exact RDs.nil'
  | cons e ds ih =>
    intro vs i d v h q
    obtain ⟨w, us, rfl, hd, hs⟩ := h.cons_
    cases i with
    | zero => exact RDs.cons' q hs
    | succ i => exact RDs.cons' hd (ih hs q)
theorem RDs.take {ds : List D} : ∀ {vs : List V} (n : Nat), RDs K m H ds vs → RDs K m H (ds.take n) (vs.take n) := by
  induction ds with
  | nil => intro vs n h; rw [h.nil_]; simp; exact RDs.nil'
  | cons e ds ih =>
    intro vs n h
    obtain ⟨w, us, rfl, hd, hs⟩ := h.cons_
    cases n with
    | zero => simp; exact RDs.nil'
    | succ n => exact RDs.cons' hd (ih n hs)
theorem RDs.drop {ds : List D} : ∀ {vs : List V} (n : Nat), RDs K m H ds vs → RDs K m H (ds.drop n) (vs.drop n) := by
  induction ds with
  | nil => intro vs n h; rw [h.nil_]; simp; exact RDs.nil'
  | cons e ds ih =>
    intro vs n h
    obtain ⟨w, us, rfl, hd, hs⟩ := h.cons_
    cases n with
    | zero => exact RDs.cons' hd hs
    | succ n => exact ih n hs
theorem RDs.reverse {ds : List D} : ∀ {vs : List V}, RDs K m H ds vs → RDs K m H ds.reverse vs.reverse := by
  induction ds with
  | nil => intro vs h; rw [h.nil_]; exact RDs.nil'
  | cons e ds ih =>
    intro vs h
    obtain ⟨w, us, rfl, hd, hs⟩ := h.cons_
    simp
    exact (ih hs).append (RDs.cons' hd RDs.nil')
theorem RDs.dropLast {ds : List D} {vs : List V} (h : RDs K m H ds vs) : RDs K m H ds.dropLast vs.dropLast := by
  rw [List.dropLast_eq_take, List.dropLast_eq_take, h.length]
  exact h.take _
theorem RDs.ints {ds : List D} : ∀ {vs : List V} {ns : List Int}, RDs K m H ds vs → ds = ns.map D.int → vs = ns.map V.int := by
  induction ds with
  | nil => intro vs ns h e; cases ns with
    | nil => exact h.nil_
    | cons _ _ => cases e
  | cons d ds ih =>
    intro vs ns h e
    cases ns with
    | nil => cases e
    | cons n ns =>
      obtain ⟨w, us, rfl, hd, hs⟩ := h.cons_
      injection e with e1 e2
      subst e1
      rw [hd.int_, ih hs e2]
      rfl
theorem RDs.strs {ds : List D} : ∀ {vs : List V} {ns : List Str}, RDs K m H ds vs → ds = ns.map D.str → vs = ns.map V.str := by
  induction ds with
  | nil => intro vs ns h e; cases ns with
    | nil => exact h.nil_
    | cons _ _ => cases e
  | cons d ds ih =>
    intro vs ns h e
    cases ns with
    | nil => cases e
    | cons n ns =>
      obtain ⟨w, us, rfl, hd, hs⟩ := h.cons_
      injection e with e1 e2
      subst e1
      rw [hd.str_, ih hs e2]
      rfl
theorem RM.lst {n : Nat} {v : V} {ds : List D} (r : RM K m H M) (d : RD K m H (.loc n) v) (e : M[n]? = some (.lst ds)) : ∃ a vs, v = .ref a ∧ m[n]? = some a ∧ H a = some (.lst vs) ∧ RDs K m H ds vs := by
  obtain ⟨a, rfl, ea, vs, e2, q⟩ := r.loc d e
  exact ⟨a, vs, rfl, ea, e2, q⟩
theorem RM.dic {n : Nat} {v : V} {ds : List (Key × D)} (r : RM K m H M) (d : RD K m H (.loc n) v) (e : M[n]? = some (.dic ds)) : ∃ a vs, v = .ref a ∧ m[n]? = some a ∧ H a = some (.dK vs) ∧ RKV K m H ds vs := by
  obtain ⟨a, rfl, ea, vs, e2, q⟩ := r.loc d e
  exact ⟨a, vs, rfl, ea, e2, q⟩

/-- a sequence: a list or a tuple -/
def seqD (x : D) (M : Mem) : Option (List D) := match x with
  | .tup ds => some ds
  | .rol ds => some ds
  | .loc n => (match M[n]? with
    | some (.lst ds) => some ds
    | _ => none)
  | _ => none
theorem seq_of {x : D} {v : V} {ds : List D} (r : RM K m H M) (d : RD K m H x v) (e : seqD x M = some ds) : ∃ a vs, v = .ref a ∧ (SqL K H a vs ∨ SqT K H a vs) ∧ RDs K m H ds vs := by
  unfold seqD at e
  split at e
  · cases e
    obtain ⟨a, vs, rfl, s, q⟩ := d.tup_
    exact ⟨a, vs, rfl, .inr s, q⟩
  · cases e
    obtain ⟨a, vs, rfl, s, q⟩ := d.rol_
    exact ⟨a, vs, rfl, .inl s.sql, q⟩
  · split at e
    · rename_i e2
      cases e
      obtain ⟨a, vs, rfl, _, s, q⟩ := r.lst d e2
      exact ⟨a, vs, rfl, .inl (SqL.of s), q⟩
    · cases e
  · cases e
/-- a list alone -/
def lstD (x : D) (M : Mem) : Option (List D) := match x with
  | .rol ds => some ds
  | .loc n => (match M[n]? with
    | some (.lst ds) => some ds
    | _ => none)
  | _ => none
theorem lst_of {x : D} {v : V} {ds : List D} (r : RM K m H M) (d : RD K m H x v) (e : lstD x M = some ds) : ∃ a vs, v = .ref a ∧ SqL K H a vs ∧ RDs K m H ds vs := by
  unfold lstD at e
  split at e
  · cases e
    obtain ⟨a, vs, rfl, s, q⟩ := d.rol_
    exact ⟨a, vs, rfl, s.sql, q⟩
  · split at e
    · rename_i e2
      cases e
      obtain ⟨a, vs, rfl, _, s, q⟩ := r.lst d e2
      exact ⟨a, vs, rfl, SqL.of s, q⟩
    · cases e
  · cases e

/-! a + b -/
def qAdd : DR2 := fun x y M Q => match x, y with
  | .int i, .int j => Q (.int (i + j)) M
  | .str s, .str t => s.length + t.length ≤ sizeLine ∧ Q (.str (s ++ t)) M
  | .tup xs, .tup ys => xs.length + ys.length ≤ sizeLine ∧ Q (.tup (xs ++ ys)) M
  | .loc i, .loc j => (match M[i]?, M[j]? with
    | some (.lst xs), some (.lst ys) => xs.length + ys.length ≤ sizeLine ∧ Q (.loc M.length) (M ++ [.lst (xs ++ ys)])
    | _, _ => False)
  | _, _ => False
theorem dop_add : DOp z (binaryOp .Add) qAdd := by
  refine ⟨_, op_add.or (op_add_str.or (op_catA.or op_cat)), fun m M H x y dx dy Q Qd r d1 d2 h t => ?_⟩
  unfold qAdd at h
  split at h
  · exact .inl ⟨_, _, d1.int_, d2.int_, t _ _ _ _ _ h .refl r RD.int'⟩
  · exact .inr (.inl ⟨_, _, d1.str_, d2.str_, h.1, t _ _ _ _ _ h.2 .refl r RD.str'⟩)
  · obtain ⟨a, vs, rfl, s1, q1⟩ := d1.tup_
    obtain ⟨b, ws, rfl, s2, q2⟩ := d2.tup_
    refine .inr (.inr (.inl ⟨a, b, vs, ws, rfl, rfl, s1, s2, by rw [q1.length, q2.length]; exact h.1, fun e => ?_, fun _ e => ?_, fun _ _ p hp => new_tup r (q1.append q2) hp h.2 t⟩))
    · subst e
      have := q1.length
      rename_i xs ys
      have e0 : xs = [] := List.eq_nil_of_length_eq_zero this.symm
      subst e0
      exact t _ _ _ _ _ h.2 .refl r (RD.tup' s2 q2)
    · subst e
      have := q2.length
      rename_i xs ys _
      have e0 : ys = [] := List.eq_nil_of_length_eq_zero this.symm
      subst e0
      exact t _ _ _ _ _ h.2 .refl r (RD.tup' s1 (by rw [List.append_nil]; exact q1))
  · split at h
    · rename_i e1 e2
      obtain ⟨a, vs, rfl, _, s1, q1⟩ := r.lst d1 e1
      obtain ⟨b, ws, rfl, _, s2, q2⟩ := r.lst d2 e2
      exact .inr (.inr (.inr ⟨a, b, vs, ws, rfl, rfl, s1, s2, by rw [q1.length, q2.length]; exact h.1, fun p hp => new_lst r (q1.append q2) hp h.2 t⟩))
    · exact h.elim
  · exact h.elim
def qInt (C : Int → Int → Prop) (f : Int → Int → D) : DR2 := fun x y M Q => match x, y with
  | .int i, .int j => C i j ∧ Q (f i j) M
  | _, _ => False
def qInt0 (f : Int → Int → D) : DR2 := fun x y M Q => match x, y with
  | .int i, .int j => Q (f i j) M
  | _, _ => False
theorem lr_int {C : Int → Int → Prop} {f : Int → Int → D} {g : Int → Int → V} (h : ∀ i j m H, RD K m H (f i j) (g i j)) : LR2 K (rI C g) (qInt C f) := fun m M H x y dx dy Q Qd r d1 d2 q t => by
  unfold qInt at q
  split at q
  · exact ⟨_, _, d1.int_, d2.int_, q.1, t _ _ _ _ _ q.2 .refl r (h _ _ _ _)⟩
  · exact q.elim
theorem lr_int0 {f : Int → Int → D} {g : Int → Int → V} (h : ∀ i j m H, RD K m H (f i j) (g i j)) : LR2 K (rI0 g) (qInt0 f) := fun m M H x y dx dy Q Qd r d1 d2 q t => by
  unfold qInt0 at q
  split at q
  · exact ⟨_, _, d1.int_, d2.int_, t _ _ _ _ _ q .refl r (h _ _ _ _)⟩
  · exact q.elim
def qSub : DR2 := qInt0 fun i j => .int (i - j)
theorem dop_sub : DOp z (binaryOp .Sub) qSub := ⟨_, op_sub, lr_int0 fun _ _ _ _ => RD.int'⟩
def qMul : DR2 := qInt CMul fun i j => .int (i * j)
theorem dop_mul : DOp z (binaryOp .Mult) qMul := ⟨_, op_mul, lr_int fun _ _ _ _ => RD.int'⟩
def qDiv : DR2 := qInt CDiv fun i j => .int (i / j)
theorem dop_fdiv : DOp z (binaryOp .FloorDiv) qDiv := ⟨_, op_fdiv, lr_int fun _ _ _ _ => RD.int'⟩
def qMod : DR2 := qInt (fun _ j => 0 < j) fun i j => .int (i % j)
theorem dop_mod : DOp z (binaryOp .Mod) qMod := ⟨_, op_mod, lr_int fun _ _ _ _ => RD.int'⟩
def qPow : DR2 := qInt CPow fun i j => .int (i ^ j.toNat)
theorem dop_pow : DOp z (binaryOp .Pow) qPow := ⟨_, op_pow, lr_int fun _ _ _ _ => RD.int'⟩

/-! order of numbers, of texts -/
def qLt : DR2 := fun x y M Q => match x, y with
  | .int i, .int j => Q (.bl (decide (i < j))) M
  | .str i, .str j => Q (.bl (decide (i.cps.toList < j.cps.toList))) M
  | _, _ => False
theorem dop_lt : DOp z (compareOp .Lt) qLt := by
  refine ⟨_, op_lt.or op_lt_str, fun m M H x y dx dy Q Qd r d1 d2 h t => ?_⟩
  unfold qLt at h
  split at h
  · exact .inl ⟨_, _, d1.int_, d2.int_, t _ _ _ _ _ h .refl r RD.bl'⟩
  · exact .inr ⟨_, _, d1.str_, d2.str_, t _ _ _ _ _ h .refl r RD.bl'⟩
  · exact h.elim
def qLe : DR2 := fun x y M Q => match x, y with
  | .int i, .int j => Q (.bl (decide (i ≤ j))) M
  | .str i, .str j => Q (.bl (decide (i.cps.toList ≤ j.cps.toList))) M
  | _, _ => False
def qGt : DR2 := fun x y M Q => match x, y with
  | .int i, .int j => Q (.bl (decide (j < i))) M
  | .str i, .str j => Q (.bl (decide (j.cps.toList < i.cps.toList))) M
  | _, _ => False
def qGe : DR2 := fun x y M Q => match x, y with
  | .int i, .int j => Q (.bl (decide (j ≤ i))) M
  | .str i, .str j => Q (.bl (decide (j.cps.toList ≤ i.cps.toList))) M
  | _, _ => False
end
section
variable {z : Zx} {K : PySem.W.Frag} {m : List Addr} {H : Hp} {M : Mem}
theorem not_dec_lt {i j : List Nat} : (!decide (j < i)) = decide (i ≤ j) := by
  by_cases h : j < i
  · rw [decide_eq_true h, decide_eq_false (fun q => List.not_lt.mpr q h)]; rfl
  · rw [decide_eq_false h, decide_eq_true (List.not_lt.mp h)]; rfl
theorem dop_le : DOp z (compareOp .LtE) qLe := by
  refine ⟨_, op_le.or op_le_str, fun m M H x y dx dy Q Qd r d1 d2 h t => ?_⟩
  unfold qLe at h
  split at h
  · exact .inl ⟨_, _, d1.int_, d2.int_, t _ _ _ _ _ h .refl r RD.bl'⟩
  · exact .inr ⟨_, _, d1.str_, d2.str_, t _ _ _ _ _ h .refl r (by rw [not_dec_lt]; exact RD.bl')⟩
  · exact h.elim
theorem dop_gt : DOp z (compareOp .Gt) qGt := by
  refine ⟨_, op_gt.or op_gt_str, fun m M H x y dx dy Q Qd r d1 d2 h t => ?_⟩
  unfold qGt at h
  split at h
  · exact .inl ⟨_, _, d1.int_, d2.int_, t _ _ _ _ _ h .refl r RD.bl'⟩
  · exact .inr ⟨_, _, d1.str_, d2.str_, t _ _ _ _ _ h .refl r RD.bl'⟩
  · exact h.elim
theorem dop_ge : DOp z (compareOp .GtE) qGe := by
  refine ⟨_, op_ge.or op_ge_str, fun m M H x y dx dy Q Qd r d1 d2 h t => ?_⟩
  unfold qGe at h
  split at h
  · exact .inl ⟨_, _, d1.int_, d2.int_, t _ _ _ _ _ h .refl r RD.bl'⟩
  · exact .inr ⟨_, _, d1.str_, d2.str_, t _ _ _ _ _ h .refl r (by rw [not_dec_lt]; exact RD.bl')⟩
  · exact h.elim

/-! ### == over data -/
mutual
def pyG (f : Nat → Option PyData) : D → Option PyData
  | .non => some .none
  | .bl b => some (.bool b)
  | .int i => some (.int i)
  | .str x => some (.str x)
  | .tup ds => (pyGs f ds).map .tuple
  | .rol ds => (pyGs f ds).map .list
  | .loc n => f n
  | .ty _ => none
  | .cls _ => none
def pyGs (f : Nat → Option PyData) : List D → Option (List PyData)
  | [] => some []
  | d :: ds => match pyG f d, pyGs f ds with
    | some p, some ps => some (p :: ps)
    | _, _ => none
end
def pyL (f : Nat → Option PyData) (M : Mem) (n : Nat) : Option PyData := match M[n]? with
  | some (.lst ds) => (pyGs f ds).map .list
  | _ => none
def pyN (M : Mem) : Nat → Nat → Option PyData
  | 0 => fun _ => none
  | k + 1 => pyL (pyN M k) M
/-- lists up to three deep in one another -/
def py (M : Mem) (d : D) : Option PyData := pyG (pyN M 3) d
mutual
theorem pyG_ok {f : Nat → Option PyData} (hf : ∀ n q a, f n = some q → m[n]? = some a → Dp K H (.ref a) q) : ∀ {d : D} {p : PyData} {v : V}, pyG f d = some p → RD K m H d v → Dp K H v p
  | .non, _, _, e, r => by unfold pyG at e; cases e; rw [r.non_]; exact .non
  | .bl _, _, _, e, r => by unfold pyG at e; cases e; rw [r.bl_]; exact .bl _
  | .int _, _, _, e, r => by unfold pyG at e; cases e; rw [r.int_]; exact .int _
  | .str _, _, _, e, r => by unfold pyG at e; cases e; rw [r.str_]; exact .str _
  | .ty _, _, _, e, r => by unfold pyG at e; cases e
  | .cls _, _, _, e, r => by unfold pyG at e; cases e
  | .loc n, _, _, e, r => by
    unfold pyG at e
    unfold RD at r
    obtain ⟨a, rfl, ea⟩ := r
    exact hf _ _ _ e ea
  | .tup ds, _, _, e, r => by
    unfold pyG at e
    obtain ⟨a, vs, rfl, s, q⟩ := r.tup_
    obtain ⟨ps, e1, rfl⟩ := Option.map_eq_some_iff.mp e
    exact .tup s (pyGs_ok hf e1 q)
  | .rol ds, _, _, e, r => by
    unfold pyG at e
    obtain ⟨a, vs, rfl, s, q⟩ := r.rol_
    obtain ⟨ps, e1, rfl⟩ := Option.map_eq_some_iff.mp e
    exact .lst s.sql (pyGs_ok hf e1 q)
theorem pyGs_ok {f : Nat → Option PyData} (hf : ∀ n q a, f n = some q → m[n]? = some a → Dp K H (.ref a) q) : ∀ {ds : List D} {ps : List PyData} {vs : List V}, pyGs f ds = some ps → RDs K m H ds vs → DpAll K H vs ps
  | [], _, _, e, r => by unfold pyGs at e; cases e; rw [r.nil_]; exact .nil
  | d :: ds, _, _, e, r => by
    unfold pyGs at e
    obtain ⟨v, ws, rfl, r1, r2⟩ := r.cons_
    split at e
    · rename_i e1 e2
      cases e
      exact .cons (pyG_ok hf e1 r1) (pyGs_ok hf e2 r2)
    · cases e
end
theorem pyN_ok (r : RM K m H M) : ∀ (k : Nat) (n : Nat) (q : PyData) (a : Addr), pyN M k n = some q → m[n]? = some a → Dp K H (.ref a) q
  | 0, _, _, _, e, _ => by cases e
  | k + 1, n, q, a, e, ea => by
    unfold pyN pyL at e
    split at e
    · rename_i ds em
      obtain ⟨ps, e1, rfl⟩ := Option.map_eq_some_iff.mp e
      obtain ⟨vs, eh, rd⟩ := r.at em ea
      exact .lst (SqL.of eh) (pyGs_ok (pyN_ok r k) e1 rd)
    · cases e
theorem py_ok (r : RM K m H M) {d : D} {p : PyData} {v : V} (e : py M d = some p) (q : RD K m H d v) : Dp K H v p := pyG_ok (pyN_ok r 3) e q

def rEqR (K : PySem.W.Frag) (n : Nat) : R2 := fun x y H Q => ∃ d e, Dp K H x d ∧ Dp K H y e ∧ d.canLay0 = true ∧ e.canLay0 = true ∧ min d.depth e.depth ≤ n ∧ Q (.bl (PyData.eqv d e)) H
def rNeR (K : PySem.W.Frag) (n : Nat) : R2 := fun x y H Q => ∃ d e, Dp K H x d ∧ Dp K H y e ∧ d.canLay0 = true ∧ e.canLay0 = true ∧ min d.depth e.depth ≤ n ∧ Q (.bl (!PyData.eqv d e)) H
theorem op_eqR {X : Cx} {n : Nat} (hu : X.A.units + n < cLine) : OpR X (compareOp .Eq) (rEqR X.K n) := by
  intro pins s σ H x y v u Q I rx ry h
  obtain ⟨d, e, hd, he, sd, se, hn, q⟩ := h
  obtain ⟨as, r1⟩ := Dp.reads I d x v hd rx
  obtain ⟨bs, r2⟩ := Dp.reads I e y u he ry
  exact SeqAt.compareEq_reads r1 r2 sd se (by omega) ⟨.bl _, H, I, rfl, q⟩
theorem op_neR {X : Cx} {n : Nat} (hu : X.A.units + n < cLine) : OpR X (compareOp .NotEq) (rNeR X.K n) := by
  intro pins s σ H x y v u Q I rx ry h
  obtain ⟨d, e, hd, he, sd, se, hn, q⟩ := h
  obtain ⟨as, r1⟩ := Dp.reads I d x v hd rx
  obtain ⟨bs, r2⟩ := Dp.reads I e y u he ry
  exact SeqAt.compareNe_reads r1 r2 sd se (by omega) ⟨.bl _, H, I, rfl, q⟩
/-- x == y: the answer b -/
def eqQ (M : Mem) (x y : D) (k : Bool → Prop) : Prop := match py M x, py M y with
  | some a, some b => a.canLay0 = true ∧ b.canLay0 = true ∧ min a.depth b.depth ≤ 199 ∧ k (PyData.eqv a b)
  | _, _ => False
def qEq : DR2 := fun x y M Q => eqQ M x y fun b => Q (.bl b) M
def qNe : DR2 := fun x y M Q => eqQ M x y fun b => Q (.bl (!b)) M
theorem room_eq {k : Nat} {A : Around} (hr : Room k A) : A.units + 199 < cLine := by have := hr.un; omega
theorem dop_eq {k : Nat} (hr : Room k z.X.A) : DOp z (compareOp .Eq) qEq := by
  refine ⟨_, op_eqR (room_eq hr), fun m M H x y dx dy Q Qd r d1 d2 h t => ?_⟩
  unfold qEq eqQ at h
  split at h
  · rename_i e1 e2
    exact ⟨_, _, py_ok r e1 d1, py_ok r e2 d2, h.1, h.2.1, h.2.2.1, t _ _ _ _ _ h.2.2.2 .refl r RD.bl'⟩
  · exact h.elim
theorem dop_ne {k : Nat} (hr : Room k z.X.A) : DOp z (compareOp .NotEq) qNe := by
  refine ⟨_, op_neR (room_eq hr), fun m M H x y dx dy Q Qd r d1 d2 h t => ?_⟩
  unfold qNe eqQ at h
  split at h
  · rename_i e1 e2
    exact ⟨_, _, py_ok r e1 d1, py_ok r e2 d2, h.1, h.2.1, h.2.2.1, t _ _ _ _ _ h.2.2.2 .refl r RD.bl'⟩
  · exact h.elim

/-! ### is -/
def isNonD : D → Bool
  | .non => true
  | _ => false
theorem isNon_of {d : D} {v : V} (r : RD K m H d v) : decide (v = .non) = isNonD d := by
  cases d with
  | non => rw [r.non_]; rfl
  | bl _ => rw [r.bl_]; rfl
  | int _ => rw [r.int_]; rfl
  | str _ => rw [r.str_]; rfl
  | tup _ => obtain ⟨_, _, rfl, _⟩ := r.tup_; rfl
  | rol _ => obtain ⟨_, _, rfl, _⟩ := r.rol_; rfl
  | loc _ => unfold RD at r; obtain ⟨_, rfl, _⟩ := r; rfl
  | ty _ => rw [r.ty_]; rfl
  | cls _ => rw [r.cls_]; rfl
def qIs : DR2 := fun x y M Q => match x, y with
  | .bl a, .bl b => Q (.bl (decide (a = b))) M
  | x, .non => Q (.bl (isNonD x)) M
  | _, _ => False
def qIsNot : DR2 := fun x y M Q => match x, y with
  | .bl a, .bl b => Q (.bl (!decide (a = b))) M
  | x, .non => Q (.bl (!isNonD x)) M
  | _, _ => False
theorem dop_is : DOp z (compareOp .Is) qIs := by
  refine ⟨_, op_isBl.or op_isN, fun m M H x y dx dy Q Qd r d1 d2 h t => ?_⟩
  unfold qIs at h
  split at h
  · exact .inl ⟨_, _, d1.bl_, d2.bl_, t _ _ _ _ _ h .refl r RD.bl'⟩
  · exact .inr ⟨d2.non_, t _ _ _ _ _ h .refl r (by rw [isNon_of d1]; exact RD.bl')⟩
  · exact h.elim
theorem dop_isnot : DOp z (compareOp .IsNot) qIsNot := by
  refine ⟨_, op_notBl.or op_notN, fun m M H x y dx dy Q Qd r d1 d2 h t => ?_⟩
  unfold qIsNot at h
  split at h
  · exact .inl ⟨_, _, d1.bl_, d2.bl_, t _ _ _ _ _ h .refl r RD.bl'⟩
  · exact .inr ⟨d2.non_, t _ _ _ _ _ h .refl r (by rw [isNon_of d1]; exact RD.bl')⟩
  · exact h.elim

/-! ### dicts -/
def valD {κ : Type} [DecidableEq κ] (kvs : List (κ × D)) (k : κ) : Option D := (kvs.find? fun kv => decide (kv.1 = k)).map (·.2)
def putD {κ : Type} [DecidableEq κ] (kvs : List (κ × D)) (k : κ) (v : D) : List (κ × D) := if kvs.any (fun kv => decide (kv.1 = k)) then kvs.map (fun kv => if kv.1 = k then (kv.1, v) else kv) else kvs ++ [(k, v)]
def keyD : D → Option Key
  | .int i => some (.inl i)
  | .str x => some (.inr x)
  | _ => none
theorem key_ofD {d : D} {k : Key} {v : V} (e : keyD d = some k) (r : RD K m H d v) : v = kV k := by
  unfold keyD at e
  split at e
  · cases e; exact r.int_
  · cases e; exact r.str_
  · cases e
theorem RKV.val {κ : Type} [DecidableEq κ] {k : κ} : ∀ {kvs : List (κ × D)} {ws : List (κ × V)}, RKV K m H kvs ws → (valD kvs k = none ∧ valV ws k = none) ∨ ∃ d v, valD kvs k = some d ∧ valV ws k = some v ∧ RD K m H d v
  | [], _, r => by unfold RKV at r; subst r; exact .inl ⟨rfl, rfl⟩
  | p :: kvs, _, r => by
    unfold RKV at r
    obtain ⟨v, s, rfl, r1, r2⟩ := r
    by_cases e : p.1 = k
    · exact .inr ⟨p.2, v, by simp [valD, List.find?_cons, e], by simp [valV, List.find?_cons, e], r1⟩
    · have e1 : valD (p :: kvs) k = valD kvs k := by simp [valD, List.find?_cons, e]
      have e2 : valV ((p.1, v) :: s) k = valV s k := valV_neg e
      rw [e1, e2]
      exact RKV.val r2
theorem RKV.any {κ : Type} [DecidableEq κ] {k : κ} : ∀ {kvs : List (κ × D)} {ws : List (κ × V)}, RKV K m H kvs ws → (ws.any fun kv => decide (kv.1 = k)) = kvs.any fun kv => decide (kv.1 = k)
  | [], _, r => by unfold RKV at r; subst r; rfl
  | p :: kvs, _, r => by
    unfold RKV at r
    obtain ⟨v, s, rfl, r1, r2⟩ := r
    simp [RKV.any r2]
theorem RKV.repl {κ : Type} [DecidableEq κ] {k : κ} {d : D} {v : V} (q : RD K m H d v) : ∀ {kvs : List (κ × D)} {ws : List (κ × V)}, RKV K m H kvs ws → RKV K m H (kvs.map fun kv => if kv.1 = k then (kv.1, d) else kv) (ws.map fun kv => if kv.1 = k then (kv.1, v) else kv)
  | [], _, r => by unfold RKV at r; subst r; exact (show RKV K m H [] [] from rfl)
  | p :: kvs, _, r => by
    unfold RKV at r
    obtain ⟨w, s, rfl, r1, r2⟩ := r
    by_cases e : p.1 = k
    · simp only [List.map_cons, e, if_true]
      exact ⟨v, _, rfl, q, RKV.repl q r2⟩
    · simp only [List.map_cons, e, if_false]
      exact ⟨w, _, rfl, r1, RKV.repl q r2⟩
theorem RKV.append {κ : Type} : ∀ {kvs : List (κ × D)} {ws : List (κ × V)} {kvs' : List (κ × D)} {ws' : List (κ × V)}, RKV K m H kvs ws → RKV K m H kvs' ws' → RKV K m H (kvs ++ kvs') (ws ++ ws')
  | [], _, _, _, r, r' => by unfold RKV at r; subst r; exact r'
  | p :: kvs, _, _, _, r, r' => by
    unfold RKV at r
    obtain ⟨w, s, rfl, r1, r2⟩ := r
    exact ⟨w, _, rfl, r1, RKV.append r2 r'⟩
theorem RKV.put {κ : Type} [DecidableEq κ] {k : κ} {d : D} {v : V} {kvs : List (κ × D)} {ws : List (κ × V)} (r : RKV K m H kvs ws) (q : RD K m H d v) : RKV K m H (putD kvs k d) (putK ws k v) := by
  unfold putD putK
  rw [r.any]
  split
  · exact r.repl q
  · exact r.append ⟨v, [], rfl, q, rfl⟩
end
end DL
namespace DL
open PySem L2

section
variable {z : Zx} {K : PySem.W.Frag} {m : List Addr} {H : Hp} {M : Mem}
/-! ### x[i] -/
def rIxD : R2 := fun x y H Q => ∃ a v, x = .ref a ∧ DGet H a y (some v) ∧ Q v H
theorem ix_dict {X : Cx} (hu : X.A.units + 1 < cLine) : IxR X rIxD := by
  intro value slice pins s σ H x y v u Q I rx ry h hs
  obtain ⟨a, w, rfl, g, q⟩ := h
  obtain rfl : v = Value.ref a := rx
  have hT := dict_typeIs I g
  exact PyProof.Rows.tail_any (ops := [.ref a, u]) hT PySem.F.slot_dict_getitem.lookup (d_getItem hu I g ry fun w' s3 I3 rw' => ⟨w, H, I3, rw', q⟩) hs
def ixLen (n : Nat) (i : Int) : Option Nat := ixN n i
def qIx : DR2 := fun x y M Q => match x with
  | .str s => (match y with
    | .int i => s.length ≤ sizeLine ∧ (match atI s.cps.toList i with
      | some c => Q (.str ⟨#[c]⟩) M
      | none => False)
    | _ => False)
  | .tup ds => (match y with
    | .int i => (match atI ds i with
      | some d => Q d M
      | none => False)
    | _ => False)
  | .rol ds => (match y with
    | .int i => (match atI ds i with
      | some d => Q d M
      | none => False)
    | _ => False)
  | .loc n => (match M[n]? with
    | some (.lst ds) => (match y with
      | .int i => (match atI ds i with
        | some d => Q d M
        | none => False)
      | _ => False)
    | some (.dic kvs) => (match keyD y with
      | some k => (match valD kvs k with
        | some d => Q d M
        | none => False)
      | none => False)
    | some (.fdic kvs) => (match keyD y with
      | some k => (match valD kvs k with
        | some d => Q d M
        | none => False)
      | none => False)
    | _ => False)
  | _ => False
theorem RDs.atI {ds : List D} {vs : List V} {i : Int} {d : D} (h : RDs K m H ds vs) (e : atI ds i = some d) : ∃ v, L2.atI vs i = some v ∧ RD K m H d v := by
  unfold L2.atI at e ⊢
  rw [h.length]
  cases q : ixN ds.length i with
  | none => rw [q] at e; cases e
  | some j =>
    rw [q] at e
    exact h.get (show ds[j]? = some d from e)
theorem dix {k : Nat} (hr : Room k z.X.A) : ∃ rr, IxR z.X rr ∧ LR2 z.X.K rr qIx := by
  refine ⟨_, ix_seq.or (ix_dict (hu_of hr)), fun m M H x y dx dy Q Qd r d1 d2 h t => ?_⟩
  unfold qIx at h
  split at h
  · split at h
    · obtain ⟨hl, h⟩ := h
      split at h
      · rename_i c e
        exact .inl (.inr (.inr ⟨_, _, c, d1.str_, d2.int_, hl, e, t _ _ _ _ _ h .refl r RD.str'⟩))
      · exact h.elim
    · exact h.elim
  · split at h
    · split at h
      · rename_i e
        obtain ⟨a, vs, rfl, s, q⟩ := d1.tup_
        obtain ⟨v, e1, r1⟩ := q.atI e
        exact .inl (.inr (.inl ⟨a, vs, _, v, rfl, d2.int_, s, e1, t _ _ _ _ _ h .refl r r1⟩))
      · exact h.elim
    · exact h.elim
  · split at h
    · split at h
      · rename_i e
        obtain ⟨a, vs, rfl, s, q⟩ := d1.rol_
        obtain ⟨v, e1, r1⟩ := q.atI e
        exact .inl (.inl ⟨a, vs, _, v, rfl, d2.int_, s.sql, e1, t _ _ _ _ _ h .refl r r1⟩)
      · exact h.elim
    · exact h.elim
  · split at h
    · rename_i em
      obtain ⟨a, vs, rfl, _, s, q⟩ := r.lst d1 em
      split at h
      · split at h
        · rename_i e
          obtain ⟨v, e1, r1⟩ := q.atI e
          exact .inl (.inl ⟨a, vs, _, v, rfl, d2.int_, SqL.of s, e1, t _ _ _ _ _ h .refl r r1⟩)
        · exact h.elim
      · exact h.elim
    · rename_i em
      obtain ⟨a, vs, rfl, _, s, q⟩ := r.dic d1 em
      split at h
      · rename_i k ek
        split at h
        · rename_i d ed
          rcases q.val (k := k) with ⟨e1, _⟩ | ⟨d', v, e1, e2, e3⟩
          · rw [ed] at e1; cases e1
          · rw [ed] at e1
            cases e1
            refine .inr ⟨a, v, rfl, ?_, t _ _ _ _ _ h .refl r e3⟩
            rw [key_ofD ek d2, ← e2]
            exact DGet.k s
        · exact h.elim
      · exact h.elim
    · rename_i em
      obtain ⟨a, rfl, _, ob, vs, s, q⟩ := r.loc d1 em
      split at h
      · rename_i k ek
        split at h
        · rename_i d ed
          rcases q.val (k := k) with ⟨e1, _⟩ | ⟨d', v, e1, e2, e3⟩
          · rw [ed] at e1; cases e1
          · rw [ed] at e1
            cases e1
            refine .inr ⟨a, v, rfl, ?_, t _ _ _ _ _ h .refl r e3⟩
            rw [key_ofD ek d2, ← e2]
            exact .inl ⟨_, _, .inr ⟨_, s⟩, rfl, rfl⟩
        · exact h.elim
      · exact h.elim
    · exact h.elim
  · exact h.elim
theorem de_ix {k : Nat} (hr : Room k z.X.A) {a b : Expr} {ta tb : DTE} {pos : Pos} (ha : DE z a ta) (hb : DE z b tb) (hs : PlainIx b := by exact fun _ _ => rfl) : DE z (.Subscript a b pos) (dBin qIx ta tb) := by
  obtain ⟨rr, o, l⟩ := dix (z := z) hr
  obtain ⟨wa, pa, la⟩ := ha
  obtain ⟨wb, pb, lb⟩ := hb
  exact ⟨_, pe_ix o pa pb hs, le_bin l la lb⟩

/-! ### x[a:b] -/
def cutD (xs : List D) (lo hi : Option Int) : List D := (xs.drop (HT.sIx xs.length 0 lo)).take (HT.sIx xs.length xs.length hi - HT.sIx xs.length 0 lo)
abbrev DTO := Rho → Mem → (Option Int → Mem → Prop) → Prop
def LO (z : Zx) (te : TO) (t : DTO) : Prop := ∀ m r M σ H (Q : Option Int → Hp → Prop) (Qd : Option Int → Mem → Prop), RS z m r M σ H → t r M Qd → (∀ o M' m' H', Qd o M' → Grow m H m' H' → RM z.X.K m' H' M' → Q o H') → te σ H Q
def DO (z : Zx) (e : Option Expr) (t : DTO) : Prop := ∃ te, PO z.X e te ∧ LO z te t
def dNoPart : DTO := fun _ M Q => Q none M
def dPart (ta : DTE) : DTO := fun r M Q => ta r M fun x M1 => match x with
  | .int i => Q (some i) M1
  | _ => False
theorem do_none : DO z none dNoPart := ⟨_, po_none, fun m r M σ H Q Qd s q t => t _ _ _ _ q .refl s.rm⟩
theorem do_some {e : Expr} {ta : DTE} (h : DE z e ta) : DO z (some e) (dPart ta) := by
  obtain ⟨wa, pa, la⟩ := h
  refine ⟨_, po_some pa, fun m r M σ H Q Qd s q t => la m r M σ H _ _ s q fun x M1 m1 v H1 q1 g1 r1 d1 => ?_⟩
  split at q1
  · exact ⟨_, d1.int_, t _ _ _ _ q1 g1 r1⟩
  · exact q1.elim
def qSl (x : D) (lo hi : Option Int) (M : Mem) (Q : QD) : Prop := match x with
  | .tup ds => Q (.tup (cutD ds lo hi)) M
  | .rol ds => Q (.loc M.length) (M ++ [.lst (cutD ds lo hi)])
  | .loc n => (match M[n]? with
    | some (.lst ds) => Q (.loc M.length) (M ++ [.lst (cutD ds lo hi)])
    | _ => False)
  | .str s => s.length ≤ sizeLine ∧ Q (.str (cutS s lo hi)) M
  | _ => False
theorem RDs.cut {ds : List D} {vs : List V} {lo hi : Option Int} (h : RDs K m H ds vs) : RDs K m H (cutD ds lo hi) (cutV vs lo hi) := by
  unfold cutD cutV
  rw [h.length]
  exact (h.drop _).take _
theorem cut_whole {ds : List D} {lo hi : Option Int} (h : HT.sIx ds.length 0 lo = 0 ∧ HT.sIx ds.length ds.length hi = ds.length) : cutD ds lo hi = ds := by
  unfold cutD
  rw [h.1, h.2]
  simp
def dSl (ta : DTE) (tl th : DTO) : DTE := fun r M Q => ta r M fun x M1 => tl r M1 fun l M2 => th r M2 fun h M3 => qSl x l h M3 Q
theorem de_slice {a : Expr} {lo hi : Option Expr} {ta : DTE} {tl th : DTO} {p2 pos : Pos} (ha : DE z a ta) (hl : DO z lo tl) (hh : DO z hi th) : DE z (.Subscript a (.Slice lo hi none p2) pos) (dSl ta tl th) := by
  obtain ⟨wa, pa, la⟩ := ha
  obtain ⟨wl, pl, ll⟩ := hl
  obtain ⟨wh, ph, lh⟩ := hh
  refine ⟨_, pe_slice (sl_list.or (sl_tupA.or sl_str)) pa pl ph, fun m r M σ H Q Qd s q t => ?_⟩
  refine la m r M σ H _ _ s q fun x M1 m1 v H1 q1 g1 r1 d1 => ll m1 r M1 σ H1 _ _ (s.grow g1 r1) q1 fun o1 M2 m2 H2 q2 g2 r2 => lh m2 r M2 σ H2 _ _ (s.grow (g1.trans g2) r2) q2 fun o2 M3 m3 H3 q3 g3 r3 => ?_
  have d3 := d1.grow (g2.trans g3)
  have t3 := t.grow ((g1.trans g2).trans g3)
  unfold qSl at q3
  split at q3
  · obtain ⟨a, vs, rfl, s, q⟩ := d3.tup_
    refine .inr (.inl ⟨a, vs, rfl, s, fun e => ?_, fun _ p hp => new_tup r3 q.cut hp q3 t3⟩)
    rw [q.length] at e
    rw [cut_whole e] at q3
    exact t3 _ _ _ _ _ q3 .refl r3 d3
  · obtain ⟨a, vs, rfl, s, q⟩ := d3.rol_
    exact .inl ⟨a, vs, rfl, s.sql, fun p hp => new_lst r3 q.cut hp q3 t3⟩
  · split at q3
    · rename_i em
      obtain ⟨a, vs, rfl, _, s, q⟩ := r3.lst d3 em
      exact .inl ⟨a, vs, rfl, SqL.of s, fun p hp => new_lst r3 q.cut hp q3 t3⟩
    · exact q3.elim
  · exact .inr (.inr ⟨_, d3.str_, q3.1, t3 _ _ _ _ _ q3.2 .refl r3 RD.str'⟩)
  · exact q3.elim
end
end DL
namespace DL
open PySem L2 PyProof.Rows
section
variable {prog : Program} {w : World} {A : Around} {E : Value → Shared → Prop} {s : Shared}
def backC : Option Int → Nat
  | none => 0
  | some j => j.toNat + 1
theorem back_adjust {hi : Option Int} (hh : ∀ j, hi = some j → 0 ≤ j) (n : Nat) : ∃ h', Builtin.Slice.sliceAdjust none hi (-1) (n : Int) = ((n : Int) - 1, h') ∧ Builtin.Slice.slicePlaces ((n : Int) - 1) h' (-1) = n - backC hi := by
  cases hi with
  | none =>
    refine ⟨-1, rfl, ?_⟩
    unfold Builtin.Slice.slicePlaces backC
    simp only [show ¬ ((-1 : Int) > 0) by decide, if_false]
    split
    · simp only [Int.neg_neg, Int.ediv_one]; omega
    · omega
  | some j =>
    have hj := hh j rfl
    refine ⟨min j ((n : Int) - 1), ?_, ?_⟩
    · unfold Builtin.Slice.sliceAdjust
      have h2 : ¬ (j < 0) := by omega
      simp [h2]
    · unfold Builtin.Slice.slicePlaces backC
      simp only [show ¬ ((-1 : Int) > 0) by decide, if_false]
      split
      · simp only [Int.neg_neg, Int.ediv_one]; omega
      · omega
theorem fm_congr {α β : Type} {f g : α → Option β} : ∀ {l : List α}, (∀ x ∈ l, f x = g x) → l.filterMap f = l.filterMap g
  | [], _ => rfl
  | x :: l, h => by
    have h1 := h x (List.mem_cons_self ..)
    have h2 := fm_congr (l := l) fun y hy => h y (List.mem_cons_of_mem _ hy)
    rw [List.filterMap_cons, List.filterMap_cons, h1, h2]
theorem back_pick (xs : Array Value) (c : Nat) : ((List.range (xs.size - c)).filterMap fun (k : Nat) => xs[(((xs.size : Int) - 1) + (k : Int) * (-1)).toNat]?).toArray = (xs.toList.drop c).reverse.toArray := by
  congr 1
  have e : ∀ k ∈ List.range (xs.size - c), xs[(((xs.size : Int) - 1) + (k : Int) * (-1)).toNat]? = some ((xs.toList.drop c).reverse.getD k .none) := by
    intro k hk
    have hk := List.mem_range.mp hk
    have e1 : (((xs.size : Int) - 1) + (k : Int) * (-1)).toNat = xs.size - 1 - k := by omega
    rw [e1, ← Array.getElem?_toList]
    rw [List.getD_eq_getElem?_getD, List.getElem?_reverse (by simp; omega), List.getElem?_drop]
    have e2 : c + ((xs.toList.drop c).length - 1 - k) = xs.size - 1 - k := by simp; omega
    rw [e2, List.getElem?_eq_getElem (by simp; omega)]
    rfl
  rw [fm_congr e]
  have e3 : (fun (k : Nat) => some ((xs.toList.drop c).reverse.getD k .none)) = (some ∘ fun k => (xs.toList.drop c).reverse.getD k .none) := rfl
  rw [e3, List.filterMap_eq_map]
  apply List.ext_getElem?
  intro i
  rw [List.getElem?_map]
  by_cases hi : i < xs.size - c
  · rw [List.getElem?_range hi]
    rw [List.getElem?_eq_getElem (by simp; omega)]
    simp [List.getD_eq_getElem?_getD]
    rw [List.getElem?_eq_getElem (by simp; omega)]
    simp
  · rw [List.getElem?_eq_none (by simp; omega), List.getElem?_eq_none (by simp; omega)]
    rfl
theorem sliceApplied_back {sl : Addr} {vu : Value} {hi : Option Int} {n : Nat} {u : Tok} {Q : Int × Int × Nat → Shared → Prop} (hs : s.heap.IsSliceOf sl .none vu (.int (-1) u)) (pu : IsPart vu hi) (hh : ∀ j, hi = some j → 0 ≤ j)
    (h : Q ((n : Int) - 1, -1, n - backC hi) s) : wpAny (model prog w) A (Builtin.Slice.sliceApplied (.ref sl) (pure (n : Int))) Q E s := by
  obtain ⟨os, hos, hcs, hds⟩ := id hs
  unfold Builtin.Slice.sliceApplied Builtin.Slice.sliceFields
  refine wpAny_bind (wpAny_bind (wpAny_field hos hds (x := .none) rfl (wpAny_bind (wpAny_field hos hds (x := vu) rfl (wpAny_bind (wpAny_field hos hds (x := .int (-1) u) rfl (wpAny_pure ?_)))))))
  refine wpAny_bind (slicePart_int ?_)
  show wpAny _ _ (if ((-1 : Int) == 0) = true then _ else _) _ _ s
  rw [if_neg (by decide)]
  refine wpAny_bind (slicePart_none (wpAny_bind (HT.slicePart_ pu (wpAny_bind (wpAny_pure ?_)))))
  obtain ⟨h', e1, e2⟩ := back_adjust hh n
  show wpAny _ _ (match Builtin.Slice.sliceAdjust none hi (-1) (n : Int) with | (lo, hi) => pure (lo, (-1 : Int), Builtin.Slice.slicePlaces lo hi (-1))) _ _ s
  rw [e1]
  show wpAny _ _ (pure ((n : Int) - 1, (-1 : Int), Builtin.Slice.slicePlaces ((n : Int) - 1) h' (-1))) _ _ s
  rw [e2]
  exact wpAny_pure h
theorem getItem_tuple_back {t sl : Addr} {items : Array Value} {vu : Value} {hi : Option Int} {u : Tok} {Q : Value → Shared → Prop} (ht : IsTup s.heap t items) (hs : s.heap.IsSliceOf sl .none vu (.int (-1) u)) (pu : IsPart vu hi) (hh : ∀ j, hi = some j → 0 ≤ j)
    (h : Q (.ref s.heap.objs.size) { s with heap := s.heap.push { cls := .type "tuple", data := .seq (items.toList.drop (backC hi)).reverse.toArray } })
    (hsz : items.size ≤ sizeLine) : wpAny (model prog w) A (getItem (.ref t) (.ref sl)) Q E s := by
  have htake : sizeOk (.seq (items.toList.drop (backC hi)).reverse.toArray) := by
    show (items.toList.drop (backC hi)).reverse.toArray.size ≤ sizeLine
    rw [List.size_toArray, List.length_reverse, List.length_drop, Array.length_toList]
    omega
  obtain ⟨os, hos, hcs, hds⟩ := id hs
  have hTs : s.TypeIs (.ref sl) "slice" := ⟨os, hos, hcs⟩
  unfold getItem
  try with_reducible refine wpAny_holding ?_
  first | refine wpAny_bind (wpAny_pure ?_) | skip
  refine wpAny_bind (wpAny_sequenceKey ht.typeIs (by decide) ?_)
  refine wpAny_bind (wpAny_callSpecial?_slot (name := Str.ofString "__getitem__") ht.typeIs PyProof.Rows.slot_tuple_getitem
    (wpAny_call_entry PyProof.Rows.slot_tuple_getitem ht.typeIs entry_tuple_getitem ?_ (args_tuple_getitem _ _)))
  show wpAny _ _ (Builtin.Tuple.tupleItemsOf (.ref t) >>= _) _ _ s
  refine wpAny_bind (tupleItemsOf_ ht ?_)
  refine wpAny_bind (wpAny_typeOf hTs ?_)
  rw [if_pos (by decide)]
  refine wpAny_bind (sliceApplied_back hs pu hh ?_)
  have hno : ¬ ((((items.size : Int) - 1) == 0 && (-1 : Int) == 1 && (items.size - backC hi) == items.size) = true) := by
    intro q
    rw [Bool.and_eq_true, Bool.and_eq_true] at q
    exact absurd q.1.2 (by decide)
  show wpAny _ _ (if (((items.size : Int) - 1) == 0 && (-1 : Int) == 1 && (items.size - backC hi) == items.size) = true then _ else _) _ _ s
  rw [if_neg hno, back_pick]
  first
    | exact wpAny_bind (m := Builtin.Tuple.tupleExact _) (wpAny_newObj_type (wpAny_pure ⟨_, rfl, wpAny_pure h⟩) htake)
    | exact wpAny_bind (m := Builtin.Tuple.tupleExact _) (wpAny_newObj_type (wpAny_bind (wpAny_pure (wpAny_pure ⟨_, rfl, wpAny_pure h⟩))) htake)
    | exact wpAny_bind (wpAny_bind (m := Builtin.Tuple.tupleExact _) (wpAny_newObj_type (wpAny_pure (wpAny_pure ⟨_, rfl, wpAny_pure h⟩)) htake))
    | exact wpAny_bind (wpAny_bind (m := Builtin.Tuple.tupleExact _) (wpAny_newObj_type (wpAny_pure ⟨_, rfl, wpAny_pure h⟩) htake))
end
section
variable {z : Zx} {K : PySem.W.Frag} {m : List Addr} {H : Hp} {M : Mem}
/-! x[:hi:-1]: of a tuple (hi none or from nought on), of a list (hi none) -/
def qBack (x : D) (hi : Option Int) (M : Mem) (Q : QD) : Prop := match x with
  | .tup ds => (match hi with
    | none => Q (.tup ds.reverse) M
    | some j => 0 ≤ j ∧ Q (.tup (ds.drop (j.toNat + 1)).reverse) M)
  | .rol ds => (match hi with
    | none => Q (.loc M.length) (M ++ [.lst ds.reverse])
    | some _ => False)
  | .loc n => (match hi, M[n]? with
    | none, some (.lst ds) => Q (.loc M.length) (M ++ [.lst ds.reverse])
    | _, _ => False)
  | _ => False
def rBack (K : PySem.W.Frag) (x : V) (hi : Option Int) (H : Hp) (Q : VK) : Prop :=
  (∃ a xs, x = .ref a ∧ SqT K H a xs ∧ (∀ j, hi = some j → 0 ≤ j) ∧ ∀ p, H p = none → Q (.ref p) (upd H p (.tup (xs.drop (backC hi)).reverse))) ∨
  (∃ a xs, x = .ref a ∧ SqL K H a xs ∧ hi = none ∧ ∀ p, H p = none → Q (.ref p) (upd H p (.lst xs.reverse)))
def tBack (K : PySem.W.Frag) (te : TE) (th : TO) : TE := fun σ H Q => te σ H fun x H1 => th σ H1 fun u H2 => rBack K x u H2 Q
theorem pe_back {X : Cx} {e : Expr} {hi : Option Expr} {te : TE} {th : TO} {k : Nat} {p1 p2 p3 pos : Pos} (he : PE X e te) (hh : PO X hi th)
    (hgen : ∀ v i, subscripted (.Slice none hi (some (.UnaryOp .USub (.Constant (.int 1) k p1) p2)) p3) false v i = operate [v, i] (getItem v i) := by intro _ _; with_unfolding_all rfl) : PE X (.Subscript e (.Slice none hi (some (.UnaryOp .USub (.Constant (.int 1) k p1) p2)) p3) pos) (tBack X.K te th) := by
  refine ⟨fun pins s σ H Q I h => ?_⟩
  refine Subscript_ (thn (he.run pins s σ H _ I h) fun v s1 ⟨x, H1, I1, r1, q1⟩ => ?_)
  have hst : PO X (some (.UnaryOp .USub (.Constant (.int 1) k p1) p2)) (tPart (tUn (rU fun i => .int (-i)) (tC (.int 1)))) := po_some (pe_un un_neg pe_int)
  refine wpAny_Slice (thn (po_none.run pins s1 σ H1 (fun o H2 => o = none ∧ H2 = H1) I1 ⟨rfl, rfl⟩) fun vl s2 ⟨l, H2, I2, pl, el, e2⟩ => ?_)
  subst el e2
  refine thn (hh.run pins s2 σ H2 _ I2 q1) fun vu s3 ⟨u, H3, I3, pu, q3⟩ => ?_
  refine thn (hst.run pins s3 σ H3 (fun o H4 => o = some (-1) ∧ H4 = H3) I3 ⟨1, rfl, -1, rfl, rfl, rfl⟩) fun vs s4 ⟨o, H4, I4, ps, eo, e4⟩ => ?_
  subst eo e4
  have I5 : Inv X pins σ H4 { s4 with heap := s4.heap.push { cls := .type "slice", data := .fields #[vl, vu, vs] } } := I4.kept (t' := s4.toks) fun b ob q => Heap.get?_push_of_some _ q
  rcases q3 with ⟨a, xs, ex, hx, hj, q⟩ | ⟨a, xs, ex, hx, en, q⟩
  · subst ex
    cases r1
    obtain ⟨its, r, ht, hz⟩ := I5.tuple hx
    have hlen := r.length
    cases pl
    cases ps with
    | int i tk =>
    show wpAny (model X.prog X.w) X.A (subscriptTail e (.Slice none hi (some (.UnaryOp .USub (.Constant (.int 1) k p1) p2)) p3) (.ref a) (.ref s4.heap.objs.size)) (EP X pins σ Q) X.xe { s4 with heap := s4.heap.push { cls := .type "slice", data := .fields #[.none, vu, .int (-1) tk] } }
    refine tail_any (ops := [.ref a, .ref s4.heap.objs.size]) ht.typeIs (PyProof.Rows.slot_tuple_getitem.lookup) ?_ (hgen _ _)
    refine getItem_tuple_back ht (Heap.IsSliceOf.new ..) pu hj ?_ (by rw [List.size_toArray]; omega)
    refine ⟨.ref _, _, I5.laid (t' := s4.toks) (o := .tup (xs.drop (backC u)).reverse) (fun b ob q => Heap.get?_push_of_some _ q) (Nat.le_refl _) ?_, rfl, q _ (I5.hok.fresh (Nat.le_refl _))⟩
    refine ⟨by rw [List.length_reverse, List.length_drop]; omega, (its.drop (backC u)).reverse, (Vals.drop _ r).reverse, ?_⟩
    exact ⟨_, Heap.get?_push_size _ rfl, rfl, 0, rfl⟩
  · subst ex
    cases r1
    subst en
    obtain ⟨its, r, ht, hz⟩ := I5.list hx
    have hlen := r.length
    show wpAny (model X.prog X.w) X.A (subscriptTail e (.Slice none hi (some (.UnaryOp .USub (.Constant (.int 1) k p1) p2)) p3) (.ref a) (.ref s4.heap.objs.size)) (EP X pins σ Q) X.xe { s4 with heap := s4.heap.push { cls := .type "slice", data := .fields #[vl, vu, vs] } }
    refine tail_any (ops := [.ref a, .ref s4.heap.objs.size]) ht.isList.typeIs (PySem.slot_list_getitem.lookup) ?_ (hgen _ _)
    refine wpAny_getItem_list_slice ht.isList (Heap.IsSliceOf.new _ vl vu vs) pl pu ps (by decide) ?_ (by rw [List.size_toArray]; omega)
    rw [PySem.W.krv_pick]
    refine ⟨.ref _, _, I5.laid (t' := s4.toks) (o := .lst xs.reverse) (fun b ob q => Heap.get?_push_of_some _ q) (Nat.le_refl _) ?_, rfl, q _ (I5.hok.fresh (Nat.le_refl _))⟩
    exact ⟨by rw [List.length_reverse]; exact hz, _, 0, r.reverse, Heap.get?_push_size _ rfl⟩
def dBack (ta : DTE) (th : DTO) : DTE := fun r M Q => ta r M fun x M1 => th r M1 fun h M2 => qBack x h M2 Q
theorem de_back {a : Expr} {hi : Option Expr} {ta : DTE} {th : DTO} {k : Nat} {p1 p2 p3 pos : Pos} (ha : DE z a ta) (hh : DO z hi th)
    (hgen : ∀ v i, subscripted (.Slice none hi (some (.UnaryOp .USub (.Constant (.int 1) k p1) p2)) p3) false v i = operate [v, i] (getItem v i) := by intro _ _; with_unfolding_all rfl) : DE z (.Subscript a (.Slice none hi (some (.UnaryOp .USub (.Constant (.int 1) k p1) p2)) p3) pos) (dBack ta th) := by
  obtain ⟨wa, pa, la⟩ := ha
  obtain ⟨wh, ph, lh⟩ := hh
  refine ⟨_, pe_back pa ph hgen, fun m r M σ H Q Qd s q t => ?_⟩
  refine la m r M σ H _ _ s q fun x M1 m1 v H1 q1 g1 r1 d1 => lh m1 r M1 σ H1 _ _ (s.grow g1 r1) q1 fun o2 M3 m3 H3 q3 g3 r3 => ?_
  have d3 := d1.grow g3
  have t3 := t.grow (g1.trans g3)
  unfold qBack at q3
  split at q3
  · obtain ⟨a, vs, rfl, s, q⟩ := d3.tup_
    split at q3
    · exact .inl ⟨a, vs, rfl, s, fun j e => (nomatch e), fun p hp => new_tup r3 (by unfold backC; rw [List.drop_zero]; exact q.reverse) hp q3 t3⟩
    · exact .inl ⟨a, vs, rfl, s, fun j e => by cases e; exact q3.1, fun p hp => new_tup r3 (q.drop _).reverse hp q3.2 t3⟩
  · obtain ⟨a, vs, rfl, s, q⟩ := d3.rol_
    split at q3
    · exact .inr ⟨a, vs, rfl, s.sql, rfl, fun p hp => new_lst r3 q.reverse hp q3 t3⟩
    · exact q3.elim
  · split at q3
    · rename_i em
      obtain ⟨a, vs, rfl, _, s, q⟩ := r3.lst d3 em
      exact .inr ⟨a, vs, rfl, SqL.of s, rfl, fun p hp => new_lst r3 q.reverse hp q3 t3⟩
    · exact q3.elim
  · exact q3.elim
end
end DL
namespace PySem
open PySem.Spec PySem.AutoSeq1
theorem dl_extend_tuple (l : Addr) (items : Array Value) (n : Nat) (b : Addr) (items2 : Array Value) (n2 : Nat) (dd : Option Addr) (sl : Array (Option Value)) (hs0 : ¬(!items.isEmpty && Builtin.List.listTooLong (items.size + items2.size)) = true) (hs1 : items.size ≤ sizeLine) (hs2 : items.size + items2.size ≤ sizeLine + 1) :
    Meets (Builtin.«list.extend» ⟨[.ref l, .ref b], []⟩) (fun _ R s => s.heap.get? l = some { cls := .type "list", dict := none, data := .seq items n, slots := #[] } ∧ s.heap.get? b = some { cls := .type "tuple", dict := dd, data := .seq items2 n2, slots := sl } ∧ R (.ok (.ret Value.none)) { s with heap := s.heap.update l (Obj.mapSeq fun x => x ++ items2), toks := s.toks }) :=
  .of_wp fun prog w A R s h => by
    obtain ⟨hp, g, d, tk, os⟩ := s; obtain ⟨hl, hb, h⟩ := h; have f1 := idx_int; have f2 := sub_tuple_tuple; have f3 := sub_list_list; have f4 := sub_tuple_list; have f5 := sub_list_tuple;
    have hz' : (items ++ items2).size ≤ sizeLine + 1 := by rw [Array.size_append]; exact hs2
    wp_walk using (wpAny_updateSeq hl rfl (hz := hs1) (_hz' := hz')), wpAny_loadPart' hl, wpAny_loadPart' hb; exact ⟨_, rfl, h⟩
end PySem
namespace DL
open PySem L2

section
variable {z : Zx} {K : PySem.W.Frag} {m : List Addr} {H : Hp} {M : Mem}
/-! ### what a cell becomes -/
theorem put_lst {n : Nat} {a : Addr} {ds' : List D} {vs' : List V} {Q : VK} {Qd : QD} {d : D} {v : V} (r : RM K m H M) (ea : m[n]? = some a) (hmu : Mut (H a)) (q : RDs K m H ds' vs') (rd : RD K m H d v) (h : Qd d (M.set n (.lst ds'))) (t : Then K m H Qd Q) : Q v (upd H a (.lst vs')) := by
  have g : Grow m H m (upd H a (.lst vs')) := Grow.put r ea hmu
  exact t _ _ _ _ _ h g (r.put ea hmu (o := .lst ds') ⟨vs', upd_same, q.grow g⟩) (rd.grow g)
theorem put_dic {n : Nat} {a : Addr} {kvs' : List (Key × D)} {ws' : List (Key × V)} {Q : VK} {Qd : QD} {d : D} {v : V} (r : RM K m H M) (ea : m[n]? = some a) (hmu : Mut (H a)) (q : RKV K m H kvs' ws') (rd : RD K m H d v) (h : Qd d (M.set n (.dic kvs'))) (t : Then K m H Qd Q) : Q v (upd H a (.dK ws')) := by
  have g : Grow m H m (upd H a (.dK ws')) := Grow.put r ea hmu
  exact t _ _ _ _ _ h g (r.put ea hmu (o := .dic kvs') ⟨ws', upd_same, q.mono g.pre g.tups⟩) (rd.grow g)

/-! ### in -/
def flatD : D → Bool
  | .non => true
  | .bl _ => true
  | .int _ => true
  | .str _ => true
  | _ => false
def eqD : D → D → Bool
  | .non, .non => true
  | .bl a, .bl b => a == b
  | .bl a, .int b => (if a then 1 else 0) == b
  | .int a, .bl b => a == (if b then 1 else 0)
  | .int a, .int b => a == b
  | .str a, .str b => a == b
  | _, _ => false
def inD (x : D) (xs : List D) : Bool := xs.any fun y => eqD y x
theorem flat_of {d : D} {v : V} (r : RD K m H d v) (f : flatD d = true) : flatV v = true := by
  unfold flatD at f
  split at f
  · rw [r.non_]; rfl
  · rw [r.bl_]; rfl
  · rw [r.int_]; rfl
  · rw [r.str_]; rfl
  · cases f
theorem eqD_of {d e : D} {v w : V} (r : RD K m H d v) (r' : RD K m H e w) (f : flatD d = true) (f' : flatD e = true) : eqV v w = eqD d e := by
  unfold flatD at f f'
  split at f
  · rw [r.non_]
    split at f' <;> first | (rw [r'.non_]; rfl) | (rw [r'.bl_]; rfl) | (rw [r'.int_]; rfl) | (rw [r'.str_]; rfl) | cases f'
  · rw [r.bl_]
    split at f' <;> first | (rw [r'.non_]; rfl) | (rw [r'.bl_]; rfl) | (rw [r'.int_]; rfl) | (rw [r'.str_]; rfl) | cases f'
  · rw [r.int_]
    split at f' <;> first | (rw [r'.non_]; rfl) | (rw [r'.bl_]; rfl) | (rw [r'.int_]; rfl) | (rw [r'.str_]; rfl) | cases f'
  · rw [r.str_]
    split at f' <;> first | (rw [r'.non_]; rfl) | (rw [r'.bl_]; rfl) | (rw [r'.int_]; rfl) | (rw [r'.str_]; rfl) | cases f'
  · cases f
theorem RDs.flat : ∀ {ds : List D} {vs : List V}, RDs K m H ds vs → ds.all flatD = true → vs.all flatV = true
  | [], _, h, _ => by rw [h.nil_]; rfl
  | d :: ds, _, h, f => by
    obtain ⟨v, ws, rfl, r1, r2⟩ := h.cons_
    rw [List.all_cons, Bool.and_eq_true] at f ⊢
    exact ⟨flat_of r1 f.1, r2.flat f.2⟩
theorem RDs.inD {x : D} {w : V} (r' : RD K m H x w) (f' : flatD x = true) : ∀ {ds : List D} {vs : List V}, RDs K m H ds vs → ds.all flatD = true → inV w vs = inD x ds
  | [], _, h, _ => by rw [h.nil_]; rfl
  | d :: ds, _, h, f => by
    obtain ⟨v, ws, rfl, r1, r2⟩ := h.cons_
    rw [List.all_cons, Bool.and_eq_true] at f
    have h1 := eqD_of r1 r' f.1 f'
    have h2 := r2.inD r' f' f.2
    unfold inV at h2 ⊢
    unfold DL.inD at h2 ⊢
    rw [List.any_cons, List.any_cons, h1, h2]
def rInD (neg : Bool) : R2 := fun x y H Q => ∃ a o, y = .ref a ∧ DGet H a x o ∧ Q (.bl (if neg then !o.isSome else o.isSome)) H
theorem op_inD {X : Cx} (hu : X.A.units + 1 < cLine) : OpR X (compareOp .In) (rInD false) := by
  intro pins s σ H x y v u Q I rx ry h
  obtain ⟨a, o, rfl, g, q⟩ := h
  cases ry
  exact d_in hu I g rx fun s3 I3 => ⟨.bl o.isSome, H, I3, rfl, q⟩
theorem op_notInD {X : Cx} (hu : X.A.units + 1 < cLine) : OpR X (compareOp .NotIn) (rInD true) := by
  intro pins s σ H x y v u Q I rx ry h
  obtain ⟨a, o, rfl, g, q⟩ := h
  cases ry
  exact d_notIn hu I g rx fun s3 I3 => ⟨.bl (!o.isSome), H, I3, rfl, q⟩
def inQ (x y : D) (M : Mem) (k : Bool → Prop) : Prop := match seqD y M with
  | some ds => flatD x = true ∧ ds.all flatD = true ∧ k (inD x ds)
  | none => (match y with
    | .loc n => (match M[n]? with
      | some (.dic kvs) => (match keyD x with
        | some j => k (valD kvs j).isSome
        | none => False)
      | _ => False)
    | _ => False)
def qIn : DR2 := fun x y M Q => inQ x y M fun b => Q (.bl b) M
def qNotIn : DR2 := fun x y M Q => inQ x y M fun b => Q (.bl (!b)) M
theorem inQ_of {neg : Bool} {x y : D} {v w : V} {k : Bool → Prop} (r : RM K m H M) (d1 : RD K m H x v) (d2 : RD K m H y w) (h : inQ x y M k) :
    (∃ p xs, w = .ref p ∧ (SqL K H p xs ∨ SqT K H p xs) ∧ flatV v = true ∧ xs.all flatV = true ∧ k (inV v xs)) ∨ (∃ a o, w = .ref a ∧ DGet H a v o ∧ k o.isSome) := by
  unfold inQ at h
  split at h
  · rename_i ds e
    obtain ⟨a, vs, rfl, s, q⟩ := seq_of r d2 e
    exact .inl ⟨a, vs, rfl, s, flat_of d1 h.1, q.flat h.2.1, by rw [q.inD d1 h.1 h.2.1]; exact h.2.2⟩
  · split at h
    · split at h
      · rename_i em
        obtain ⟨a, vs, rfl, _, s, q⟩ := r.dic d2 em
        split at h
        · rename_i j ek
          refine .inr ⟨a, valV vs j, rfl, ?_, ?_⟩
          · rw [key_ofD ek d1]; exact DGet.k s
          · rcases q.val (k := j) with ⟨e1, e2⟩ | ⟨d', v', e1, e2, e3⟩
            · rw [e1] at h; rw [e2]; exact h
            · rw [e1] at h; rw [e2]; exact h
        · exact h.elim
      · exact h.elim
    · exact h.elim
theorem dop_in {k : Nat} (hr : Room k z.X.A) : DOp z (compareOp .In) qIn := by
  refine ⟨_, op_in_seq.or (op_inD (hu_of hr)), fun m M H x y dx dy Q Qd r d1 d2 h t => ?_⟩
  rcases inQ_of (neg := false) r d1 d2 h with ⟨p, xs, e, s, f1, f2, q⟩ | ⟨a, o, e, g, q⟩
  · exact .inl ⟨p, xs, e, s, f1, f2, t _ _ _ _ _ q .refl r RD.bl'⟩
  · exact .inr ⟨a, o, e, g, t _ _ _ _ _ q .refl r RD.bl'⟩
theorem dop_notin {k : Nat} (hr : Room k z.X.A) : DOp z (compareOp .NotIn) qNotIn := by
  refine ⟨_, op_notIn_seq.or (op_notInD (hu_of hr)), fun m M H x y dx dy Q Qd r d1 d2 h t => ?_⟩
  rcases inQ_of (neg := true) r d1 d2 h with ⟨p, xs, e, s, f1, f2, q⟩ | ⟨a, o, e, g, q⟩
  · exact .inl ⟨p, xs, e, s, f1, f2, t _ _ _ _ _ q .refl r RD.bl'⟩
  · exact .inr ⟨a, o, e, g, t _ _ _ _ _ q .refl r RD.bl'⟩

/-! ### - a -/
def dNeg (ta : DTE) : DTE := fun r M Q => ta r M fun x M1 => match x with
  | .int i => Q (.int (-i)) M1
  | _ => False
theorem de_neg {a : Expr} {ta : DTE} {pos : Pos} (ha : DE z a ta) : DE z (.UnaryOp .USub a pos) (dNeg ta) := by
  obtain ⟨wa, pa, la⟩ := ha
  refine ⟨_, pe_un un_neg pa, fun m r M σ H Q Qd s q t => la m r M σ H _ _ s q fun x M1 m1 v H1 q1 g1 r1 d1 => ?_⟩
  split at q1
  · exact ⟨_, d1.int_, t _ _ _ _ _ q1 g1 r1 RD.int'⟩
  · exact q1.elim

/-! ### builtins by their names -/
def dCB (rd : DRA) (ta : DTA) : DTE := fun r M Q => ta r M fun xs M1 => rd xs M1 Q
theorem le_cb {rr : List V → Hp → VK → Prop} {rd : DRA} {wa : TA} {ta : DTA} (h : LRA z.X.K rr rd) (ha : LA z wa ta) : LE z (tCB rr wa) (dCB rd ta) := fun m r M σ H Q Qd s q t =>
  ha m r M σ H _ _ s q fun x M1 m1 v H1 q1 g1 r1 d1 => h m1 M1 H1 v x Q Qd r1 d1 q1 (t.grow g1)
theorem de_cb {x : Str} {id : String} {e : Expr} {es : List Expr} {rd : DRA} {ta : DTA} {p pos : Pos} (hm : z.X.mg x = none) (hc : DCall z (.builtin id) rd) (hv : bootBuiltins x = some (.builtin id)) (ha : DA z (e :: es) ta) (hg : Gl z.X x := by rfl) (hn : x ≠ "__name__" := by decide) (hdb : (x == ("__debug__" : Str)) = false := by decide)
    (he : starEach (e :: es) z.X.env = (false, eval e z.X.env) :: starEach es z.X.env := by rfl) (hpl : (backTo pos (starEach es z.X.env)).any (·.1) = false := by rfl) : DE z (.Call (.Name x p) (e :: es) [] pos) (dCB rd ta) := by
  obtain ⟨rr, o, l⟩ := hc
  obtain ⟨wa, pa, la⟩ := ha
  exact ⟨_, pe_callB o hg hm hv pa hn hdb he hpl, le_cb l la⟩
theorem de_ct {x : Str} {T : String} {e : Expr} {es : List Expr} {rd : DRA} {ta : DTA} {p pos : Pos} (hm : z.X.mg x = none) (hc : DCall z (.type T) rd) (hv : bootBuiltins x = some (.type T)) (ha : DA z (e :: es) ta) (hg : Gl z.X x := by rfl) (hn : x ≠ "__name__" := by decide) (hdb : (x == ("__debug__" : Str)) = false := by decide)
    (he : starEach (e :: es) z.X.env = (false, eval e z.X.env) :: starEach es z.X.env := by rfl) (hpl : (backTo pos (starEach es z.X.env)).any (·.1) = false := by rfl) : DE z (.Call (.Name x p) (e :: es) [] pos) (dCB rd ta) := by
  obtain ⟨rr, o, l⟩ := hc
  obtain ⟨wa, pa, la⟩ := ha
  exact ⟨_, pe_callTy o hg hm hv pa hn hdb he hpl, le_cb l la⟩
theorem RDs.one_ {d : D} {vs : List V} (h : RDs K m H [d] vs) : ∃ v, vs = [v] ∧ RD K m H d v := by
  obtain ⟨v, ws, rfl, r1, r2⟩ := h.cons_
  rw [r2.nil_]
  exact ⟨v, rfl, r1⟩
theorem RDs.two_ {d e : D} {vs : List V} (h : RDs K m H [d, e] vs) : ∃ v w, vs = [v, w] ∧ RD K m H d v ∧ RD K m H e w := by
  obtain ⟨v, ws, rfl, r1, r2⟩ := h.cons_
  obtain ⟨w, rfl, r3⟩ := r2.one_
  exact ⟨v, w, rfl, r1, r3⟩
/-! len -/
def qLen : DRA := fun xs M Q => match xs with
  | [.str s] => s.length ≤ sizeLine ∧ Q (.int s.length) M
  | [.tup ds] => Q (.int ds.length) M
  | [.rol ds] => Q (.int ds.length) M
  | [.loc n] => (match M[n]? with
    | some (.lst ds) => Q (.int ds.length) M
    | some (.dic kvs) => Q (.int kvs.length) M
    | _ => False)
  | _ => False
theorem call_lenDict {X : Cx} : CallR X (.builtin "len") (fun xs H Q => ∃ a kvs, xs = [.ref a] ∧ Rd H a (.dK kvs) ∧ Q (.int kvs.length) H) := by
  intro pins s σ H xs us Q I r h
  obtain ⟨a, kvs, rfl, e, q⟩ := h
  obtain ⟨u, rfl, ru⟩ := vals1 r
  cases ru
  exact d_len I e fun t s' I' => ⟨.int kvs.length, H, I', ⟨t, rfl⟩, q⟩
theorem dc_len : DCall z (.builtin "len") qLen := by
  refine ⟨_, call_len.or call_lenDict, fun m M H vs ds Q Qd r d h t => ?_⟩
  unfold qLen at h
  split at h
  · obtain ⟨v, rfl, q⟩ := d.one_
    exact .inl ⟨v, _, rfl, by rw [q.str_]; exact ⟨h.1, rfl⟩, t _ _ _ _ _ h.2 .refl r RD.int'⟩
  · obtain ⟨v, rfl, q⟩ := d.one_
    obtain ⟨a, vs, rfl, s, q⟩ := q.tup_
    exact .inl ⟨_, _, rfl, .inr ⟨vs, s, q.length.symm⟩, t _ _ _ _ _ h .refl r RD.int'⟩
  · obtain ⟨v, rfl, q⟩ := d.one_
    obtain ⟨a, vs, rfl, s, q⟩ := q.rol_
    exact .inl ⟨_, _, rfl, .inl ⟨vs, s.sql, q.length.symm⟩, t _ _ _ _ _ h .refl r RD.int'⟩
  · obtain ⟨v, rfl, q⟩ := d.one_
    split at h
    · rename_i e
      obtain ⟨a, vs, rfl, _, s, q⟩ := r.lst q e
      exact .inl ⟨_, _, rfl, .inl ⟨vs, SqL.of s, q.length.symm⟩, t _ _ _ _ _ h .refl r RD.int'⟩
    · rename_i e
      obtain ⟨a, vs, rfl, _, s, q⟩ := r.dic q e
      exact .inr ⟨a, vs, rfl, .inl s, by rw [q.length]; exact t _ _ _ _ _ h .refl r RD.int'⟩
    · exact h.elim
  · exact h.elim
/-! abs, max, min of two -/
def qAbs : DRA := fun xs M Q => match xs with
  | [.int i] => Q (.int (if i < 0 then -i else i)) M
  | _ => False
theorem dc_abs : DCall z (.builtin "abs") qAbs := by
  refine ⟨_, call_abs, fun m M H vs ds Q Qd r d h t => ?_⟩
  unfold qAbs at h
  split at h
  · obtain ⟨v, rfl, q⟩ := d.one_
    exact ⟨_, by rw [q.int_], t _ _ _ _ _ h .refl r RD.int'⟩
  · exact h.elim
def intsD : List D → Option (List Int)
  | [] => some []
  | .int i :: r => (intsD r).map (i :: ·)
  | _ => none
theorem intsD_eq : ∀ {ds : List D} {ns : List Int}, intsD ds = some ns → ds = ns.map D.int
  | [], ns, h => by cases h; rfl
  | .int i :: r, ns, h => by
    unfold intsD at h
    obtain ⟨ks, e, rfl⟩ := Option.map_eq_some_iff.mp h
    rw [intsD_eq e]
    rfl
  | .non :: _, _, h => by cases h
  | .bl _ :: _, _, h => by cases h
  | .str _ :: _, _, h => by cases h
  | .tup _ :: _, _, h => by cases h
  | .loc _ :: _, _, h => by cases h
  | .ty _ :: _, _, h => by cases h
  | .cls _ :: _, _, h => by cases h
  | .rol _ :: _, _, h => by cases h
theorem intsD_map : ∀ ns : List Int, intsD (ns.map D.int) = some ns
  | [] => rfl
  | n :: ns => by
    show (intsD (ns.map D.int)).map (n :: ·) = some (n :: ns)
    rw [intsD_map ns]
    rfl
def strsD : List D → Option (List Str)
  | [] => some []
  | .str i :: r => (strsD r).map (i :: ·)
  | _ => none
theorem strsD_eq : ∀ {ds : List D} {ns : List Str}, strsD ds = some ns → ds = ns.map D.str
  | [], ns, h => by cases h; rfl
  | .str i :: r, ns, h => by
    unfold strsD at h
    obtain ⟨ks, e, rfl⟩ := Option.map_eq_some_iff.mp h
    rw [strsD_eq e]
    rfl
  | .non :: _, _, h => by cases h
  | .bl _ :: _, _, h => by cases h
  | .int _ :: _, _, h => by cases h
  | .tup _ :: _, _, h => by cases h
  | .loc _ :: _, _, h => by cases h
  | .ty _ :: _, _, h => by cases h
  | .cls _ :: _, _, h => by cases h
  | .rol _ :: _, _, h => by cases h
theorem strsD_map : ∀ ns : List Str, strsD (ns.map D.str) = some ns
  | [] => rfl
  | n :: ns => by
    show (strsD (ns.map D.str)).map (n :: ·) = some (n :: ns)
    rw [strsD_map ns]
    rfl
def blsD : List D → Option (List Bool)
  | [] => some []
  | .bl i :: r => (blsD r).map (i :: ·)
  | _ => none
theorem blsD_eq : ∀ {ds : List D} {ns : List Bool}, blsD ds = some ns → ds = ns.map D.bl
  | [], ns, h => by cases h; rfl
  | .bl i :: r, ns, h => by
    unfold blsD at h
    obtain ⟨ks, e, rfl⟩ := Option.map_eq_some_iff.mp h
    rw [blsD_eq e]
    rfl
  | .non :: _, _, h => by cases h
  | .str _ :: _, _, h => by cases h
  | .int _ :: _, _, h => by cases h
  | .tup _ :: _, _, h => by cases h
  | .loc _ :: _, _, h => by cases h
  | .ty _ :: _, _, h => by cases h
  | .cls _ :: _, _, h => by cases h
  | .rol _ :: _, _, h => by cases h
theorem blsD_map : ∀ ns : List Bool, blsD (ns.map D.bl) = some ns
  | [] => rfl
  | n :: ns => by
    show (blsD (ns.map D.bl)).map (n :: ·) = some (n :: ns)
    rw [blsD_map ns]
    rfl
theorem RDs.bls {ns : List Bool} : ∀ {vs : List V}, RDs K m H (ns.map D.bl) vs → vs = ns.map V.bl := by
  induction ns with
  | nil => intro vs h; exact h.nil_
  | cons n ns ih =>
    intro vs h
    obtain ⟨v, ws, rfl, r1, r2⟩ := RDs.cons_ h
    rw [r1.bl_, ih r2]
    rfl
/-- a list of numbers, of texts, of truth values -/
def intsOf (x : D) (M : Mem) : Option (List Int) := (lstD x M).bind intsD
def strsOf (x : D) (M : Mem) : Option (List Str) := (seqD x M).bind strsD
def blsOf (x : D) (M : Mem) : Option (List Bool) := (lstD x M).bind blsD
theorem ints_of {x : D} {v : V} {ns : List Int} (r : RM K m H M) (d : RD K m H x v) (e : intsOf x M = some ns) : ∃ a, v = .ref a ∧ SqL K H a (ns.map V.int) := by
  obtain ⟨ds, e1, e2⟩ := Option.bind_eq_some_iff.mp e
  obtain ⟨a, vs, rfl, s, q⟩ := lst_of r d e1
  rw [q.ints (intsD_eq e2)] at s
  exact ⟨a, rfl, s⟩
theorem strs_of {x : D} {v : V} {ns : List Str} (r : RM K m H M) (d : RD K m H x v) (e : strsOf x M = some ns) : ∃ a, v = .ref a ∧ (SqL K H a (ns.map V.str) ∨ SqT K H a (ns.map V.str)) := by
  obtain ⟨ds, e1, e2⟩ := Option.bind_eq_some_iff.mp e
  obtain ⟨a, vs, rfl, s, q⟩ := seq_of r d e1
  rw [q.strs (strsD_eq e2)] at s
  exact ⟨a, rfl, s⟩
theorem bls_of {x : D} {v : V} {ns : List Bool} (r : RM K m H M) (d : RD K m H x v) (e : blsOf x M = some ns) : ∃ a, v = .ref a ∧ SqL K H a (ns.map V.bl) := by
  obtain ⟨ds, e1, e2⟩ := Option.bind_eq_some_iff.mp e
  obtain ⟨a, vs, rfl, s, q⟩ := lst_of r d e1
  have e3 := blsD_eq e2
  subst e3
  rw [q.bls] at s
  exact ⟨a, rfl, s⟩
def qMax : DRA := fun xs M Q => match xs with
  | [.int i, .int j] => Q (.int (if j > i then j else i)) M
  | [x] => (match intsOf x M with
    | some ns => 0 < ns.length ∧ ∀ k, k ∈ ns → (∀ y, y ∈ ns → y ≤ k) → Q (.int k) M
    | none => False)
  | _ => False
theorem dc_max (hc : z.X.calm = true) : DCall z (.builtin "max") qMax := by
  refine ⟨_, (call_max2 hc).or (cr_max hc), fun m M H vs ds Q Qd r d h t => ?_⟩
  unfold qMax at h
  split at h
  · obtain ⟨v, w, rfl, q1, q2⟩ := d.two_
    exact .inl ⟨_, _, by rw [q1.int_, q2.int_], t _ _ _ _ _ h .refl r RD.int'⟩
  · obtain ⟨v, rfl, q⟩ := d.one_
    split at h
    · rename_i ns e
      obtain ⟨a, rfl, s⟩ := ints_of r q e
      exact .inr ⟨a, ns, rfl, s, h.1, fun k h1 h2 => t _ _ _ _ _ (h.2 k h1 h2) .refl r RD.int'⟩
    · exact h.elim
  · exact h.elim
def qMin : DRA := fun xs M Q => match xs with
  | [.int i, .int j] => Q (.int (if j < i then j else i)) M
  | [x] => (match intsOf x M with
    | some ns => 0 < ns.length ∧ ∀ k, k ∈ ns → (∀ y, y ∈ ns → k ≤ y) → Q (.int k) M
    | none => False)
  | _ => False
theorem dc_min (hc : z.X.calm = true) : DCall z (.builtin "min") qMin := by
  refine ⟨_, (call_min2 hc).or (cr_min hc), fun m M H vs ds Q Qd r d h t => ?_⟩
  unfold qMin at h
  split at h
  · obtain ⟨v, w, rfl, q1, q2⟩ := d.two_
    exact .inl ⟨_, _, by rw [q1.int_, q2.int_], t _ _ _ _ _ h .refl r RD.int'⟩
  · obtain ⟨v, rfl, q⟩ := d.one_
    split at h
    · rename_i ns e
      obtain ⟨a, rfl, s⟩ := ints_of r q e
      exact .inr ⟨a, ns, rfl, s, h.1, fun k h1 h2 => t _ _ _ _ _ (h.2 k h1 h2) .refl r RD.int'⟩
    · exact h.elim
  · exact h.elim
def qSum : DRA := fun xs M Q => match xs with
  | [x] => (match intsOf x M with
    | some ns => Q (.int ns.sum) M
    | none => False)
  | _ => False
theorem dc_sum (hc : z.X.calm = true) : DCall z (.builtin "sum") qSum := by
  refine ⟨_, cr_sum hc, fun m M H vs ds Q Qd r d h t => ?_⟩
  unfold qSum at h
  split at h
  · obtain ⟨v, rfl, q⟩ := d.one_
    split at h
    · rename_i ns e
      obtain ⟨a, rfl, s⟩ := ints_of r q e
      exact ⟨a, ns, rfl, s, t _ _ _ _ _ h .refl r RD.int'⟩
    · exact h.elim
  · exact h.elim
def qAll : DRA := fun xs M Q => match xs with
  | [x] => (match blsOf x M with
    | some ns => Q (.bl (ns.all id)) M
    | none => False)
  | _ => False
theorem dc_all (hc : z.X.calm = true) : DCall z (.builtin "all") qAll := by
  refine ⟨_, cr_all hc, fun m M H vs ds Q Qd r d h t => ?_⟩
  unfold qAll at h
  split at h
  · obtain ⟨v, rfl, q⟩ := d.one_
    split at h
    · rename_i ns e
      obtain ⟨a, rfl, s⟩ := bls_of r q e
      exact ⟨a, ns, rfl, s, t _ _ _ _ _ h .refl r RD.bl'⟩
    · exact h.elim
  · exact h.elim
def qAny : DRA := fun xs M Q => match xs with
  | [x] => (match blsOf x M with
    | some ns => Q (.bl (ns.any id)) M
    | none => False)
  | _ => False
theorem dc_any (hc : z.X.calm = true) : DCall z (.builtin "any") qAny := by
  refine ⟨_, cr_any hc, fun m M H vs ds Q Qd r d h t => ?_⟩
  unfold qAny at h
  split at h
  · obtain ⟨v, rfl, q⟩ := d.one_
    split at h
    · rename_i ns e
      obtain ⟨a, rfl, s⟩ := bls_of r q e
      exact ⟨a, ns, rfl, s, t _ _ _ _ _ h .refl r RD.bl'⟩
    · exact h.elim
  · exact h.elim
/-! int(..), list(..), tuple(..), dict(..) -/
def qInt_ : DRA := fun xs M Q => match xs with
  | [.int i] => Q (.int i) M
  | [.bl k] => Q (.int (if k then 1 else 0)) M
  | [.str s] => (match PySem.intText? s with
    | some n => s.length ≤ 640 ∧ Q (.int n) M
    | none => False)
  | _ => False
theorem dc_int : DCall z (.type "int") qInt_ := by
  refine ⟨_, call_int1.or call_int_str, fun m M H vs ds Q Qd r d h t => ?_⟩
  unfold qInt_ at h
  split at h
  · obtain ⟨v, rfl, q⟩ := d.one_
    exact .inl (.inl ⟨_, by rw [q.int_], t _ _ _ _ _ h .refl r RD.int'⟩)
  · obtain ⟨v, rfl, q⟩ := d.one_
    exact .inl (.inr ⟨_, by rw [q.bl_], t _ _ _ _ _ h .refl r RD.int'⟩)
  · obtain ⟨v, rfl, q⟩ := d.one_
    split at h
    · rename_i n e
      exact .inr ⟨_, n, by rw [q.str_], e, h.1, t _ _ _ _ _ h.2 .refl r RD.int'⟩
    · exact h.elim
  · exact h.elim
def qStr_ : DRA := fun xs M Q => match xs with
  | [.int i] => i.natAbs.log2 < 1920 ∧ Q (.str (toString i)) M
  | _ => False
theorem dc_str : DCall z (.type "str") qStr_ := by
  refine ⟨_, call_str_int, fun m M H vs ds Q Qd r d h t => ?_⟩
  unfold qStr_ at h
  split at h
  · obtain ⟨v, rfl, q⟩ := d.one_
    exact ⟨_, by rw [q.int_], h.1, t _ _ _ _ _ h.2 .refl r RD.str'⟩
  · exact h.elim
def keyV : Key → D
  | .inl i => .int i
  | .inr x => .str x
theorem keyV_of {k : Key} : RD K m H (keyV k) (kV k) := by
  cases k with
  | inl i => exact RD.int'
  | inr x => exact RD.str'
theorem RKV.keys : ∀ {kvs : List (Key × D)} {ws : List (Key × V)}, RKV K m H kvs ws → RDs K m H (kvs.map fun kv => keyV kv.1) (ws.map fun kv => kV kv.1)
  | [], _, r => by unfold RKV at r; subst r; exact RDs.nil'
  | p :: kvs, _, r => by
    unfold RKV at r
    obtain ⟨v, s, rfl, r1, r2⟩ := r
    exact RDs.cons' keyV_of r2.keys
def qList_ : DRA := fun xs M Q => match xs with
  | [x] => (match seqD x M with
    | some ds => Q (.loc M.length) (M ++ [.lst ds])
    | none => (match x with
      | .loc n => (match M[n]? with
        | some (.dic kvs) => Q (.loc M.length) (M ++ [.lst (kvs.map fun kv => keyV kv.1)])
        | _ => False)
      | _ => False))
  | _ => False
theorem dc_list (hc : z.X.calm = true) : DCall z (.type "list") qList_ := by
  refine ⟨_, call_list_of.or (call_list_dK hc), fun m M H vs ds Q Qd r d h t => ?_⟩
  unfold qList_ at h
  split at h
  · obtain ⟨v, rfl, q⟩ := d.one_
    split at h
    · rename_i e
      obtain ⟨a, ys, rfl, s, q⟩ := seq_of r q e
      exact .inl ⟨a, ys, rfl, s, fun p hp => new_lst r q hp h t⟩
    · split at h
      · split at h
        · rename_i e
          obtain ⟨a, ys, rfl, _, s, q⟩ := r.dic q e
          exact .inr ⟨a, ys, rfl, s, fun p hp => new_lst r q.keys hp h t⟩
        · exact h.elim
      · exact h.elim
  · exact h.elim
def qTuple_ : DRA := fun xs M Q => match xs with
  | [x] => (match seqD x M with
    | some ds => Q (.tup ds) M
    | none => False)
  | _ => False
theorem dc_tuple : DCall z (.type "tuple") qTuple_ := by
  refine ⟨_, call_tuple_of, fun m M H vs ds Q Qd r d h t => ?_⟩
  unfold qTuple_ at h
  split at h
  · obtain ⟨v, rfl, q⟩ := d.one_
    split at h
    · rename_i e
      obtain ⟨a, ys, rfl, s, q⟩ := seq_of r q e
      rcases s with s | s
      · exact ⟨a, ys, rfl, .inl ⟨s, fun p hp => new_tup r q hp h t⟩⟩
      · exact ⟨a, ys, rfl, .inr ⟨s, t _ _ _ _ _ h .refl r (RD.tup' s q)⟩⟩
    · exact h.elim
  · exact h.elim
theorem call_dictCopy {X : Cx} : CallR X (.type "dict") (fun xs H Q => ∃ a kvs, xs = [.ref a] ∧ Rd H a (.dK kvs) ∧ ∀ p, H p = none → Q (.ref p) (upd H p (.dK kvs))) := by
  intro pins s σ H xs us Q I r h
  obtain ⟨a, kvs, rfl, e, q⟩ := h
  obtain ⟨u, rfl, ru⟩ := vals1 r
  cases ru
  exact d_copyOf I e fun p s' hp I' => ⟨.ref p, _, I', rfl, q p hp⟩
def qDict_ : DRA := fun xs M Q => match xs with
  | [.loc n] => (match M[n]? with
    | some (.dic kvs) => Q (.loc M.length) (M ++ [.dic kvs])
    | _ => False)
  | _ => False
theorem dc_dict : DCall z (.type "dict") qDict_ := by
  refine ⟨_, call_dictCopy, fun m M H vs ds Q Qd r d h t => ?_⟩
  unfold qDict_ at h
  split at h
  · obtain ⟨v, rfl, q⟩ := d.one_
    split at h
    · rename_i kvs e
      obtain ⟨a, ys, rfl, _, s, q⟩ := r.dic q e
      exact ⟨a, ys, rfl, .inl s, fun p hp => new_cell (o := .dic kvs) r hp ⟨ys, upd_same, q.mono (Grow.cell (H := H) (ho := .dK ys) hp).pre (Grow.cell (m := m) hp).tups⟩ h t⟩
    · exact h.elim
  · exact h.elim
/-! isinstance(x, a builtin class) -/
def tyN (x : D) (M : Mem) : Option String := match x with
  | .non => some "NoneType"
  | .bl _ => some "bool"
  | .int _ => some "int"
  | .str _ => some "str"
  | .tup _ => some "tuple"
  | .rol _ => some "list"
  | .loc n => (match M[n]? with
    | some (.lst _) => some "list"
    | some (.dic _) => some "dict"
    | _ => none)
  | _ => none
theorem tyN_of {x : D} {v : V} {n : String} (r : RM K m H M) (d : RD K m H x v) (e : tyN x M = some n) : TyX K H v (.type n) := by
  unfold tyN at e
  split at e
  · cases e; rw [d.non_]; exact .base .non
  · cases e; rw [d.bl_]; exact .base (.bl _)
  · cases e; rw [d.int_]; exact .base (.int _)
  · cases e; rw [d.str_]; exact .base (.str _)
  · cases e
    obtain ⟨a, vs, rfl, s, q⟩ := d.tup_
    rcases s with (s | ⟨o, s⟩) | ⟨o, its, k, e1, e2, _⟩
    · exact .base (.tup s)
    · exact .fTuple s
    · exact .kTuple e1 e2
  · cases e
    obtain ⟨a, vs, rfl, s, q⟩ := d.rol_
    rcases s with ⟨o, s⟩ | ⟨o, its, k, e1, e2, _⟩
    · exact .base (.frz s)
    · exact .kList e1 e2
  · split at e
    · rename_i e2
      cases e
      obtain ⟨a, vs, rfl, _, s, q⟩ := r.lst d e2
      exact .base (.lst s)
    · rename_i e2
      cases e
      obtain ⟨a, vs, rfl, _, s, q⟩ := r.dic d e2
      exact .base (.dK s)
    · cases e
  · cases e
def qIsi : DRA := fun xs M Q => match xs with
  | [x, .ty n] => (match tyN x M with
    | some k => (match kitB k n with
      | some b => Q (.bl b) M
      | none => False)
    | none => False)
  | _ => False
theorem dc_isi : DCall z (.builtin "isinstance") qIsi := by
  refine ⟨_, call_isi, fun m M H vs ds Q Qd r d h t => ?_⟩
  unfold qIsi at h
  split at h
  · obtain ⟨v, w, rfl, q1, q2⟩ := d.two_
    split at h
    · rename_i k e
      split at h
      · rename_i b e2
        exact ⟨v, w, _, _, b, rfl, by rw [q2.ty_]; exact .ty _, tyN_of r q1 e, kit_ty e2, t _ _ _ _ _ h .refl r RD.bl'⟩
      · exact h.elim
    · exact h.elim
  · exact h.elim
theorem kit_ii : kitB "int" "int" = some true := by decide +kernel
theorem kit_bi : kitB "bool" "int" = some true := by decide +kernel
theorem kit_si : kitB "str" "int" = some false := by decide +kernel
theorem kit_ti : kitB "tuple" "int" = some false := by decide +kernel
theorem kit_li : kitB "list" "int" = some false := by decide +kernel
theorem kit_di : kitB "dict" "int" = some false := by decide +kernel
theorem kit_ni : kitB "NoneType" "int" = some false := by decide +kernel
theorem kit_ib : kitB "int" "bool" = some false := by decide +kernel
theorem kit_bb : kitB "bool" "bool" = some true := by decide +kernel
theorem kit_sb : kitB "str" "bool" = some false := by decide +kernel
theorem kit_tb : kitB "tuple" "bool" = some false := by decide +kernel
theorem kit_lb : kitB "list" "bool" = some false := by decide +kernel
theorem kit_nb : kitB "NoneType" "bool" = some false := by decide +kernel
theorem kit_is : kitB "int" "str" = some false := by decide +kernel
theorem kit_ss : kitB "str" "str" = some true := by decide +kernel
theorem kit_ts : kitB "tuple" "str" = some false := by decide +kernel
theorem kit_ls : kitB "list" "str" = some false := by decide +kernel
theorem kit_ns : kitB "NoneType" "str" = some false := by decide +kernel
theorem kit_it : kitB "int" "tuple" = some false := by decide +kernel
theorem kit_st : kitB "str" "tuple" = some false := by decide +kernel
theorem kit_tt : kitB "tuple" "tuple" = some true := by decide +kernel
theorem kit_lt : kitB "list" "tuple" = some false := by decide +kernel
theorem kit_nt : kitB "NoneType" "tuple" = some false := by decide +kernel
theorem kit_il : kitB "int" "list" = some false := by decide +kernel
theorem kit_tl : kitB "tuple" "list" = some false := by decide +kernel
theorem kit_ll : kitB "list" "list" = some true := by decide +kernel
theorem kit_dl : kitB "dict" "list" = some false := by decide +kernel
theorem kit_nl : kitB "NoneType" "list" = some false := by decide +kernel
theorem kit_dd : kitB "dict" "dict" = some true := by decide +kernel
theorem kit_nd : kitB "NoneType" "dict" = some false := by decide +kernel
theorem kit_ld : kitB "list" "dict" = some false := by decide +kernel
end
end DL
namespace DL
open PySem L2

/-! ### what a loop walks -/
structure DIt where
  items : List D
  ok : Mem → Prop
structure ItOk (K : PySem.W.Frag) (m : List Addr) (H : Hp) (it : DIt) (J : It) : Prop where
  go : ∀ (i : Nat) m' M' H', i < it.items.length → Grow m H m' H' → RM K m' H' M' → it.ok M' → J.go i H'
  yld : ∀ (i : Nat) m' M' H' x H'', i < it.items.length → Grow m H m' H' → RM K m' H' M' → it.ok M' → J.yld i H' x H'' → ∃ d, it.items[i]? = some d ∧ (H'' = H' ∨ ∃ p o, H' p = none ∧ H'' = upd H' p o) ∧ RD K m' H'' d x
  stop : ∀ m' M' H', Grow m H m' H' → RM K m' H' M' → it.ok M' → J.stop it.items.length H'
abbrev DTI := Rho → Mem → (DIt → Mem → Prop) → Prop
def LI (z : Zx) (wi : TI) (t : DTI) : Prop := ∀ m r M σ H (R : It → Hp → Prop) (Rd : DIt → Mem → Prop), RS z m r M σ H → t r M Rd →
  (∀ it M' m' H' J, Rd it M' → Grow m H m' H' → RM z.X.K m' H' M' → ItOk z.X.K m' H' it J → R J H') → wi σ H R
def DI (z : Zx) (tg e : Expr) (t : DTI) : Prop := ∃ wi, PI z.X tg e wi ∧ LI z wi t

section
variable {z : Zx} {K : PySem.W.Frag} {m : List Addr} {H : Hp} {M : Mem}
theorem itok_list {n : Nat} {a : Addr} {ds : List D} (ea : m[n]? = some a) : ItOk K m H ⟨ds, fun M => M[n]? = some (.lst ds)⟩ (Itl K a) where
  go := fun i m' M' H' hi g r hk => by
    obtain ⟨vs, e, q⟩ := r.at hk (get_pre g.pre ea)
    obtain ⟨v, ev, _⟩ := q.get (List.getElem?_eq_getElem hi)
    exact ⟨vs, v, SqL.of e, ev⟩
  yld := fun i m' M' H' x H'' hi g r hk y => by
    obtain ⟨rfl, y⟩ := y
    obtain ⟨vs, e, q⟩ := r.at hk (get_pre g.pre ea)
    obtain ⟨v, ev, rv⟩ := q.get (List.getElem?_eq_getElem hi)
    have e2 := y vs (SqL.of e)
    rw [ev] at e2
    cases e2
    exact ⟨_, List.getElem?_eq_getElem hi, .inl rfl, rv⟩
  stop := fun m' M' H' g r hk => by
    obtain ⟨vs, e, q⟩ := r.at hk (get_pre g.pre ea)
    exact ⟨vs, SqL.of e, Nat.le_of_eq q.length⟩
theorem itok_rol {a : Addr} {ds : List D} {vs : List V} (s : SqR K H a vs) (q : RDs K m H ds vs) : ItOk K m H ⟨ds, fun _ => True⟩ (Itl K a) where
  go := fun i m' M' H' hi g r hk => by
    obtain ⟨v, ev, _⟩ := q.get (List.getElem?_eq_getElem hi)
    exact ⟨vs, v, (g.tups.ro _ _ s).sql, ev⟩
  yld := fun i m' M' H' x H'' hi g r hk y => by
    obtain ⟨rfl, y⟩ := y
    obtain ⟨v, ev, rv⟩ := q.get (List.getElem?_eq_getElem hi)
    have e2 := y vs (g.tups.ro _ _ s).sql
    rw [ev] at e2
    cases e2
    exact ⟨_, List.getElem?_eq_getElem hi, .inl rfl, rv.grow g⟩
  stop := fun m' M' H' g r hk => ⟨vs, (g.tups.ro _ _ s).sql, Nat.le_of_eq q.length⟩
theorem itok_tup {a : Addr} {ds : List D} {vs : List V} (s : SqT K H a vs) (q : RDs K m H ds vs) : ItOk K m H ⟨ds, fun _ => True⟩ (Itt K a) where
  go := fun i m' M' H' hi g r hk => by
    obtain ⟨v, ev, _⟩ := q.get (List.getElem?_eq_getElem hi)
    exact ⟨vs, v, g.tups.tu _ _ s, ev⟩
  yld := fun i m' M' H' x H'' hi g r hk y => by
    obtain ⟨rfl, y⟩ := y
    obtain ⟨v, ev, rv⟩ := q.get (List.getElem?_eq_getElem hi)
    have e2 := y vs (g.tups.tu _ _ s)
    rw [ev] at e2
    cases e2
    exact ⟨_, List.getElem?_eq_getElem hi, .inl rfl, rv.grow g⟩
  stop := fun m' M' H' g r hk => ⟨vs, g.tups.tu _ _ s, Nat.le_of_eq q.length⟩
theorem itok_str {x : Str} : ItOk K m H ⟨x.cps.toList.map fun c => .str ⟨#[c]⟩, fun _ => True⟩ (Its x) where
  go := fun i m' M' H' hi g r hk => by
    show i < x.cps.size
    simpa using hi
  yld := fun i m' M' H' v H'' hi g r hk y => by
    obtain ⟨rfl, c, ec, rfl⟩ := y
    refine ⟨.str ⟨#[c]⟩, ?_, .inl rfl, RD.str'⟩
    rw [List.getElem?_map, Array.getElem?_toList, ec]
    rfl
  stop := fun m' M' H' g r hk => by
    show x.cps.size ≤ _
    simp
theorem itok_range {lo : Int} {n : Nat} : ItOk K m H ⟨(List.range n).map fun (i : Nat) => .int (lo + (i : Int)), fun _ => True⟩ (Itr lo n) where
  go := fun i m' M' H' hi g r hk => by
    show i < n
    simpa using hi
  yld := fun i m' M' H' v H'' hi g r hk y => by
    obtain ⟨rfl, rfl⟩ := y
    refine ⟨.int (lo + (i : Int)), ?_, .inl rfl, RD.int'⟩
    have hi' : i < n := by simpa using hi
    rw [List.getElem?_map, List.getElem?_range hi']
    rfl
  stop := fun m' M' H' g r hk => by show n ≤ _; simp

/-! x: a list, a tuple or a text -/
def iSeq (K : PySem.W.Frag) (tl : TE) : TI := fun σ H R => tl σ H fun x H1 => (∃ a, x = .ref a ∧ (∃ xs, SqL K H1 a xs) ∧ R (Itl K a) H1) ∨ (∃ a, x = .ref a ∧ (∃ xs, SqT K H1 a xs) ∧ R (Itt K a) H1) ∨ ∃ s, x = .str s ∧ R (Its s) H1
theorem pi_seq {X : Cx} {tg l : Expr} {tl : TE} (hl : PE X l tl) : PI X tg l (iSeq X.K tl) := by
  refine ⟨fun pins s σ H R I h => ?_⟩
  refine thn (hl.run pins s σ H _ I h) fun v s1 ⟨x, H1, I1, r1, q1⟩ => ?_
  rcases q1 with ⟨a, e, ⟨xs, hq⟩, q⟩ | ⟨a, e, ⟨xs, hq⟩, q⟩ | ⟨y, e, q⟩
  · subst e
    cases r1
    obtain ⟨its, rv, p, hz⟩ := I1.list hq
    refine wpAny_pyIter_list p.isList ?_
    refine ⟨s1.heap.objs.size, [s1.heap.objs.size], _, _, H1, rfl, I1.kept (t' := s1.toks) fun b o e => Heap.get?_push_of_some _ e, turn_list a _, ⟨_, Heap.get?_push_size _ rfl, rfl, rfl⟩, fun b hb => ?_, q⟩
    have e : b = s1.heap.objs.size := by simpa using hb
    subst e
    exact I1.fpOk (Nat.le_refl _) (I1.hok.fresh (Nat.le_refl _))
  · subst e
    cases r1
    obtain ⟨its, rv, p, hz⟩ := I1.tuple hq
    refine wpAny_pyIter_tuple (show s1.heap.IsTuple a its.toArray from p) ?_
    refine ⟨s1.heap.objs.size, [s1.heap.objs.size], _, _, H1, rfl, I1.kept (t' := s1.toks) fun b o e => Heap.get?_push_of_some _ e, turn_tuple a _, ⟨_, Heap.get?_push_size _ rfl, rfl, rfl⟩, fun b hb => ?_, q⟩
    have e : b = s1.heap.objs.size := by simpa using hb
    subst e
    exact I1.fpOk (Nat.le_refl _) (I1.hok.fresh (Nat.le_refl _))
  · subst e
    obtain ⟨t, rfl⟩ := r1
    cases ha : y.cps.all (· < 128)
    · exact wpAny_pyIter_wide ha (pi_one (tk := s1.toks) I1 _ (turn_str _ y t "str_iterator" (.inr rfl)) ⟨_, Heap.get?_push_size _ rfl, rfl, rfl⟩ q)
    · exact wpAny_pyIter_ascii ha (pi_one (tk := s1.toks) I1 _ (turn_str _ y t "str_ascii_iterator" (.inl rfl)) ⟨_, Heap.get?_push_size _ rfl, rfl, rfl⟩ q)
def dISeq (ta : DTE) : DTI := fun r M R => ta r M fun x M1 => match x with
  | .tup ds => R ⟨ds, fun _ => True⟩ M1
  | .rol ds => R ⟨ds, fun _ => True⟩ M1
  | .loc n => (match M1[n]? with
    | some (.lst ds) => R ⟨ds, fun M => M[n]? = some (.lst ds)⟩ M1
    | _ => False)
  | .str x => R ⟨x.cps.toList.map fun c => .str ⟨#[c]⟩, fun _ => True⟩ M1
  | _ => False
theorem di_seq {tg e : Expr} {ta : DTE} (h : DE z e ta) : DI z tg e (dISeq ta) := by
  obtain ⟨wa, pa, la⟩ := h
  refine ⟨_, pi_seq pa, fun m r M σ H R Rd s q t => la m r M σ H _ _ s q fun x M1 m1 v H1 q1 g1 r1 d1 => ?_⟩
  split at q1
  · obtain ⟨a, vs, rfl, s, q⟩ := d1.tup_
    exact .inr (.inl ⟨a, rfl, ⟨vs, s⟩, t _ _ _ _ _ q1 g1 r1 (itok_tup s q)⟩)
  · obtain ⟨a, vs, rfl, s, q⟩ := d1.rol_
    exact .inl ⟨a, rfl, ⟨vs, s.sql⟩, t _ _ _ _ _ q1 g1 r1 (itok_rol s q)⟩
  · split at q1
    · rename_i e
      obtain ⟨a, vs, rfl, ea, s, q⟩ := r1.lst d1 e
      exact .inl ⟨a, rfl, ⟨vs, SqL.of s⟩, t _ _ _ _ _ q1 g1 r1 (itok_list ea)⟩
    · exact q1.elim
  · exact .inr (.inr ⟨_, d1.str_, t _ _ _ _ _ q1 g1 r1 itok_str⟩)
  · exact q1.elim
def rngD (lo : Int) (n : Nat) : List D := (List.range n).map fun (i : Nat) => .int (lo + (i : Int))
def dIRng1 (ta : DTA) : DTI := fun r M R => ta r M fun xs M1 => match xs with
  | [.int j] => (-(2 ^ 62) ≤ j ∧ j < 2 ^ 62) ∧ R ⟨rngD 0 j.toNat, fun _ => True⟩ M1
  | _ => False
def dIRng2 (ta : DTA) : DTI := fun r M R => ta r M fun xs M1 => match xs with
  | [.int i, .int j] => (-(2 ^ 62) ≤ i ∧ i < 2 ^ 62 ∧ -(2 ^ 62) ≤ j ∧ j < 2 ^ 62) ∧ R ⟨rngD i (j - i).toNat, fun _ => True⟩ M1
  | _ => False
theorem di_rng1 {tg a : Expr} {ta : DTA} {p pos : Pos} (hm : z.X.mg "range" = none) (h : DA z [a] ta) (hg : Gl z.X "range" := by rfl) (hs : starEach [a] z.X.env = [(false, eval a z.X.env)] := by rfl) : DI z tg (.Call (.Name "range" p) [a] [] pos) (dIRng1 ta) := by
  obtain ⟨wa, pa, la⟩ := h
  refine ⟨_, pi_range1 hg hm pa hs, fun m r M σ H R Rd s q t => la m r M σ H _ _ s q fun xs M1 m1 vs H1 q1 g1 r1 d1 => ?_⟩
  split at q1
  · obtain ⟨v, rfl, d⟩ := d1.one_
    exact ⟨_, by rw [d.int_], q1.1.1, q1.1.2, t _ _ _ _ _ q1.2 g1 r1 itok_range⟩
  · exact q1.elim
theorem di_rng2 {tg a b : Expr} {ta : DTA} {p pos : Pos} (hm : z.X.mg "range" = none) (h : DA z [a, b] ta) (hg : Gl z.X "range" := by rfl) (hs : starEach [a, b] z.X.env = [(false, eval a z.X.env), (false, eval b z.X.env)] := by rfl) (hs2 : starEach [b] z.X.env = [(false, eval b z.X.env)] := by rfl) :
    DI z tg (.Call (.Name "range" p) [a, b] [] pos) (dIRng2 ta) := by
  obtain ⟨wa, pa, la⟩ := h
  refine ⟨_, pi_range2 hg hm pa hs hs2, fun m r M σ H R Rd s q t => la m r M σ H _ _ s q fun xs M1 m1 vs H1 q1 g1 r1 d1 => ?_⟩
  split at q1
  · obtain ⟨v, w, rfl, d, d'⟩ := d1.two_
    exact ⟨_, _, by rw [d.int_, d'.int_], q1.1, t _ _ _ _ _ q1.2 g1 r1 itok_range⟩
  · exact q1.elim

/-! ### targets -/
abbrev DTG := D → Rho → Mem → (Rho → Mem → Prop) → Prop
def LG (z : Zx) (wg : TG) (g : DTG) : Prop := ∀ m r M σ H d v (Q : L2.St → Hp → Prop) (Qd : Rho → Mem → Prop), RS z m r M σ H → RD z.X.K m H d v → g d r M Qd →
  (∀ r' M' m' σ' H', Qd r' M' → Grow m H m' H' → RS z m' r' M' σ' H' → Q σ' H') → wg v σ H Q
def DG (z : Zx) (tg : Expr) (g : DTG) : Prop := ∃ wg, PG z.X tg wg ∧ LG z wg g
def LGs (z : Zx) (wg : TGs) (g : List D → Rho → Mem → (Rho → Mem → Prop) → Prop) : Prop := ∀ m r M σ H ds vs (Q : L2.St → Hp → Prop) (Qd : Rho → Mem → Prop), RS z m r M σ H → RDs z.X.K m H ds vs → g ds r M Qd →
  (∀ r' M' m' σ' H', Qd r' M' → Grow m H m' H' → RS z m' r' M' σ' H' → Q σ' H') → wg vs σ H Q
def DGs (z : Zx) (tgs : List Expr) (g : List D → Rho → Mem → (Rho → Mem → Prop) → Prop) : Prop := ∃ wg, PGs z.X tgs wg ∧ LGs z wg g
def dgName (i : Nat) : DTG := fun d r M Q => Q (r.set i (some d)) M
theorem dg_name (i : Nat) {x : Str} {pos : Pos} (hN : z.X.N.Nodup) (hi : z.X.N[i]? = some x := by rfl) (hx : Loc z.X.env.scope x := by first | exact Or.inl rfl | exact Or.inr rfl) (hf : z.X.fn x = true ∨ z.X.env.scope.names.lookup x = some .local := by first | exact .inl rfl | exact .inr rfl) : DG z (.Name x pos) (dgName i) :=
  ⟨_, pg_name hN hi hx hf, fun m r M σ H d v Q Qd s rd q t => t _ _ _ _ _ q .refl (s.set rd)⟩
def dgNil : List D → Rho → Mem → (Rho → Mem → Prop) → Prop := fun ds r M Q => ds = [] ∧ Q r M
def dgCons (g : DTG) (gs : List D → Rho → Mem → (Rho → Mem → Prop) → Prop) : List D → Rho → Mem → (Rho → Mem → Prop) → Prop := fun ds r M Q => match ds with
  | d :: es => g d r M fun r1 M1 => gs es r1 M1 Q
  | [] => False
theorem dgs_nil : DGs z [] dgNil := ⟨_, pgs_nil, fun m r M σ H ds vs Q Qd s rd q t => by
  obtain ⟨rfl, q⟩ := q
  exact ⟨rd.nil_, t _ _ _ _ _ q .refl s⟩⟩
theorem dgs_cons {e : Expr} {es : List Expr} {g : DTG} {gs : List D → Rho → Mem → (Rho → Mem → Prop) → Prop} (h : DG z e g) (h' : DGs z es gs)
    (hs : (assignEach (e :: es) z.X.env).map (·.2) = assign e z.X.env :: (assignEach es z.X.env).map (·.2) := by rfl) : DGs z (e :: es) (dgCons g gs) := by
  obtain ⟨wg, pg, lg⟩ := h
  obtain ⟨wgs, pgs, lgs⟩ := h'
  refine ⟨_, pgs_cons pg pgs hs, fun m r M σ H ds vs Q Qd s rd q t => ?_⟩
  unfold dgCons at q
  split at q
  · obtain ⟨v, ws, rfl, r1, r2⟩ := rd.cons_
    refine ⟨v, ws, rfl, lg m r M σ H _ v _ _ s r1 q fun r' M' m' σ' H' q' g' s' => ?_⟩
    exact lgs m' r' M' σ' H' _ ws _ _ s' (r2.grow g') q' fun r2 M2 m2 σ2 H2 q2 g2 s2 => t _ _ _ _ _ q2 (g'.trans g2) s2
  · exact q.elim
def dgTup (n : Nat) (gs : List D → Rho → Mem → (Rho → Mem → Prop) → Prop) : DTG := fun d r M Q => match d with
  | .tup ds => ds.length = n ∧ gs ds r M Q
  | _ => False
theorem dg_tup {es : List Expr} {k n : Nat} {pos : Pos} {gs : List D → Rho → Mem → (Rho → Mem → Prop) → Prop} (hc : z.X.calm = true) (h : DGs z es gs)
    (hn : (assignEach es z.X.env).length = n := by rfl) (hst : (assignEach es z.X.env).findIdx? (·.1) = none := by rfl) : DG z (.Tuple es k pos) (dgTup n gs) := by
  obtain ⟨wgs, pgs, lgs⟩ := h
  refine ⟨_, pg_tup hc pgs hn hst, fun m r M σ H d v Q Qd s rd q t => ?_⟩
  unfold dgTup at q
  split at q
  · obtain ⟨a, vs, rfl, sq, q2⟩ := rd.tup_
    exact ⟨a, vs, rfl, sq, by rw [q2.length]; exact q.1, lgs m r M σ H _ vs _ _ s q2 q.2 t⟩
  · exact q.elim
/-! o[i] = v -/
abbrev DTSet := D → D → D → Mem → (Mem → Prop) → Prop
def qSet : DTSet := fun o i v M Q => match o with
  | .loc n => (match M[n]? with
    | some (.lst ds) => (match i with
      | .int k => (match ixN ds.length k with
        | some j => Q (M.set n (.lst (ds.set j v)))
        | none => False)
      | _ => False)
    | some (.dic kvs) => (match keyD i with
      | some k => kvs.length < sizeLine ∧ Q (M.set n (.dic (putD kvs k v)))
      | none => False)
    | _ => False)
  | _ => False
def rSetD : V → V → V → Hp → (Hp → Prop) → Prop := fun o i v H Q => ∃ a H', o = .ref a ∧ DPut H a i v H' ∧ Q H'
theorem set_dict {X : Cx} (hu : X.A.units + 1 < cLine) : PSet X rSetD := by
  intro pins s σ H o i v ov iv u Q I ro ri rv h
  obtain ⟨a, H', rfl, g, q⟩ := h
  cases ro
  exact d_setItem hu I g ri rv fun s' I' => ⟨H', I', q⟩
theorem PSet.or {X : Cx} {t t' : TSet} (h : PSet X t) (h' : PSet X t') : PSet X fun o i v H Q => t o i v H Q ∨ t' o i v H Q := by
  intro pins s σ H o i v ov iv u Q I ro ri rv q
  rcases q with q | q
  · exact h pins s σ H o i v ov iv u Q I ro ri rv q
  · exact h' pins s σ H o i v ov iv u Q I ro ri rv q
def dgSub (to ti : DTE) : DTG := fun d r M Q => to r M fun o M1 => ti r M1 fun i M2 => qSet o i d M2 fun M3 => Q r M3
theorem dg_sub {k : Nat} (hr : Room k z.X.A) {o i : Expr} {to ti : DTE} {pos : Pos} (ho : DE z o to) (hi : DE z i ti)
    (ha : ∀ v, assign (.Subscript o i pos) z.X.env v = (do
      let ov ← holding [v] (eval o z.X.env)
      let iv ← holding [v, ov] (eval i z.X.env)
      standAt pos
      holding [v, ov, iv] (setItem ov iv v)
      release [v, ov, iv] []) := by intro _; rfl) : DG z (.Subscript o i pos) (dgSub to ti) := by
  obtain ⟨wo, po, lo⟩ := ho
  obtain ⟨wi, pi, li⟩ := hi
  refine ⟨_, pg_sub po pi (DL.PSet.or set_list (set_dict (hu_of hr))) ha, fun m r M σ H d v Q Qd s rd q t => ?_⟩
  refine lo m r M σ H _ _ s q fun x M1 m1 w1 H1 q1 g1 r1 d1 => li m1 r M1 σ H1 _ _ (s.grow g1 r1) q1 fun y M2 m2 w2 H2 q2 g2 r2 d2 => ?_
  have g12 := g1.trans g2
  have rd2 := rd.grow g12
  have do2 := d1.grow g2
  unfold qSet at q2
  split at q2
  · split at q2
    · rename_i ds e
      obtain ⟨a, vs, rfl, ea, eh, qv⟩ := r2.lst do2 e
      split at q2
      · split at q2
        · rename_i j ej
          refine .inl ⟨a, vs, _, j, rfl, d2.int_, eh, by rw [qv.length]; exact ej, ?_⟩
          have g3 : Grow m2 H2 m2 (upd H2 a (.lst (vs.set j v))) := Grow.put r2 ea (by rw [eh]; trivial)
          exact t _ _ _ _ _ q2 (g12.trans g3) ((s.grow g12 r2).grow g3 (r2.put ea (by rw [eh]; trivial) (o := .lst (ds.set j d)) ⟨_, upd_same, (qv.set rd2).grow g3⟩))
        · exact q2.elim
      · exact q2.elim
    · rename_i kvs e
      obtain ⟨a, ws, rfl, ea, eh, qv⟩ := r2.dic do2 e
      split at q2
      · rename_i k ek
        refine .inr ⟨a, upd H2 a (.dK (putK ws k v)), rfl, ?_, ?_⟩
        · rw [key_ofD ek d2]
          exact DPut.k eh (by rw [qv.length]; exact q2.1)
        · have g3 : Grow m2 H2 m2 (upd H2 a (.dK (putK ws k v))) := Grow.put r2 ea (by rw [eh]; trivial)
          exact t _ _ _ _ _ q2.2 (g12.trans g3) ((s.grow g12 r2).grow g3 (r2.put ea (by rw [eh]; trivial) (o := .dic (putD kvs k d)) ⟨_, upd_same, (qv.put rd2).mono g3.pre g3.tups⟩))
      · exact q2.elim
    · exact q2.elim
  · exact q2.elim
end
end DL
namespace DL
open PySem L2

/-! ### statements -/
structure Le (z : Zx) (m : List Addr) (H : Hp) (Dd : DEnds) (E : Ends) : Prop where
  nx : ∀ r' M' m' σ' H', Dd.nx r' M' → Grow m H m' H' → RS z m' r' M' σ' H' → E.nx σ' H'
  rt : ∀ d M' m' v H', Dd.rt d M' → Grow m H m' H' → RM z.X.K m' H' M' → RD z.X.K m' H' d v → E.rt v H'
  bk : ∀ r' M' m' σ' H', Dd.bk r' M' → Grow m H m' H' → RS z m' r' M' σ' H' → E.bk σ' H'
  ct : ∀ r' M' m' σ' H', Dd.ct r' M' → Grow m H m' H' → RS z m' r' M' σ' H' → E.ct σ' H'
theorem Le.grow {z m H m' H' Dd E} (l : Le z m H Dd E) (g : Grow m H m' H') : Le z m' H' Dd E :=
  ⟨fun r M m1 σ H1 q g1 s => l.nx r M m1 σ H1 q (g.trans g1) s, fun d M m1 v H1 q g1 s t => l.rt d M m1 v H1 q (g.trans g1) s t,
   fun r M m1 σ H1 q g1 s => l.bk r M m1 σ H1 q (g.trans g1) s, fun r M m1 σ H1 q g1 s => l.ct r M m1 σ H1 q (g.trans g1) s⟩
def LS (z : Zx) (ts : TS) (t : DTS) : Prop := ∀ m r M σ H (E : Ends) (Dd : DEnds), RS z m r M σ H → t Dd r M → Le z m H Dd E → ts E σ H
def DS (z : Zx) (st : Stmt) (t : DTS) : Prop := ∃ ts, PS z.X st ts ∧ LS z ts t
def DSs (z : Zx) (st : List Stmt) (t : DTS) : Prop := ∃ ts, PSs z.X st ts ∧ LS z ts t
section
variable {z : Zx} {e c : Expr} {te : DTE} {tt : DTT} {t u : DTS} {st : Stmt} {rest a b : List Stmt} {pos : Pos}
def dNext : DTS := fun D r M => D.nx r M
def dSeq (t u : DTS) : DTS := fun D r M => t { D with nx := u D } r M
theorem dss_nil : DSs z [] dNext := ⟨_, pss_nil, fun m r M σ H E Dd s q l => l.nx _ _ _ _ _ q .refl s⟩
theorem dss_cons (h : DS z st t) (h' : DSs z rest u) : DSs z (st :: rest) (dSeq t u) := by
  obtain ⟨w, p, lw⟩ := h
  obtain ⟨w', p', lw'⟩ := h'
  refine ⟨_, pss_cons p p', fun m r M σ H E Dd s q l => lw m r M σ H _ _ s q ⟨fun r1 M1 m1 σ1 H1 q1 g1 s1 => ?_, l.rt, l.bk, l.ct⟩⟩
  exact lw' m1 r1 M1 σ1 H1 _ _ s1 q1 (l.grow g1)
theorem dss_one (h : DS z st t) : DSs z [st] t := by
  obtain ⟨w, p, lw⟩ := h
  exact ⟨_, pss_one p, lw⟩
theorem ds_pass : DS z (.Pass pos) dNext := ⟨_, ps_pass, fun m r M σ H E Dd s q l => l.nx _ _ _ _ _ q .refl s⟩
def dBreak : DTS := fun D r M => D.bk r M
def dCont : DTS := fun D r M => D.ct r M
theorem ds_break : DS z (.Break pos) dBreak := ⟨_, ps_break, fun m r M σ H E Dd s q l => l.bk _ _ _ _ _ q .refl s⟩
theorem ds_cont : DS z (.Continue pos) dCont := ⟨_, ps_continue, fun m r M σ H E Dd s q l => l.ct _ _ _ _ _ q .refl s⟩
theorem ds_doc {x j pos'} : DS z (.Expr (.Constant (.str x) j pos) pos') dNext := ⟨_, ps_doc, fun m r M σ H E Dd s q l => l.nx _ _ _ _ _ q .refl s⟩
def dDrop (te : DTE) : DTS := fun D r M => te r M fun _ M1 => D.nx r M1
theorem ds_expr (h : DE z e te) (hs : swapsWith e none pos.line z.X.env = pure false := by rfl) : DS z (.Expr e pos) (dDrop te) := by
  obtain ⟨w, p, lw⟩ := h
  exact ⟨_, ps_expr p hs, fun m r M σ H E Dd s q l => lw m r M σ H _ _ s q fun d M1 m1 v H1 q1 g1 r1 d1 => l.nx _ _ _ _ _ q1 g1 (s.grow g1 r1)⟩
def dRet (te : DTE) : DTS := fun D r M => te r M D.rt
theorem ds_ret (h : DE z e te) : DS z (.Return (some e) pos) (dRet te) := by
  obtain ⟨w, p, lw⟩ := h
  exact ⟨_, ps_ret p, fun m r M σ H E Dd s q l => lw m r M σ H _ _ s q fun d M1 m1 v H1 q1 g1 r1 d1 => l.rt _ _ _ _ _ q1 g1 r1 d1⟩
def dRetN : DTS := fun D _ M => D.rt .non M
theorem ds_retN : DS z (.Return none pos) dRetN := ⟨_, ps_retN, fun m r M σ H E Dd s q l => l.rt _ _ _ _ _ q .refl s.rm RD.non'⟩
def dIfS (c : DTT) (t u : DTS) : DTS := fun D r M => c r M fun k M1 => match k with
  | true => t D r M1
  | false => u D r M1
theorem ds_if (hc : DT z c tt) (ha : DSs z a t) (hb : DSs z b u) : DS z (.If c a b pos) (dIfS tt t u) := by
  obtain ⟨w, p, lw⟩ := hc
  obtain ⟨wa, pa, la⟩ := ha
  obtain ⟨wb, pb, lb⟩ := hb
  refine ⟨_, ps_if p pa pb, fun m r M σ H E Dd s q l => lw m r M σ H _ _ s q fun k M1 m1 H1 q1 g1 r1 => ?_⟩
  cases k with
  | true => rw [if_pos rfl]; exact la m1 r M1 σ H1 _ _ (s.grow g1 r1) q1 (l.grow g1)
  | false => rw [if_neg (by decide)]; exact lb m1 r M1 σ H1 _ _ (s.grow g1 r1) q1 (l.grow g1)
def dNever : DTS := fun _ _ _ => False
theorem ds_never : DS z st dNever := ⟨_, ps_never, fun m r M σ H E Dd s q l => q.elim⟩
theorem dss_never {sts : List Stmt} : DSs z sts dNever := ⟨_, pss_never, fun m r M σ H E Dd s q l => q.elim⟩
/-! x = e -/
def dAsg (te : DTE) (g : DTG) : DTS := fun D r M => te r M fun d M1 => g d r M1 D.nx
theorem ds_asg {tg : Expr} {g : DTG} (h : DE z e te) (hg : DG z tg g) (hs : swapsWithSole [tg] e pos.line z.X.env = pure false := by rfl) (hw : swappedStores [tg] e z.X.env = pure none := by rfl)
    (h1 : (assignEach [tg] z.X.env).map (·.2) = [assign tg z.X.env] := by rfl) : DS z (.Assign [tg] e pos) (dAsg te g) := by
  obtain ⟨w, p, lw⟩ := h
  obtain ⟨wg, pg, lg⟩ := hg
  exact ⟨_, ps_asg p pg hs hw h1, fun m r M σ H E Dd s q l => lw m r M σ H _ _ s q fun d M1 m1 v H1 q1 g1 r1 d1 => lg m1 r M1 σ H1 d v _ _ (s.grow g1 r1) d1 q1 fun r2 M2 m2 σ2 H2 q2 g2 s2 => l.nx _ _ _ _ _ q2 (g1.trans g2) s2⟩
theorem ds_set (i : Nat) {x : Str} {pos' : Pos} (hN : z.X.N.Nodup) (h : DE z e te) (hi : z.X.N[i]? = some x := by rfl) (hx : Loc z.X.env.scope x := by first | exact Or.inl rfl | exact Or.inr rfl) (hs : swapsWith e (some (.Name x pos')) pos.line z.X.env = pure false := by rfl) (hf : z.X.fn x = true ∨ z.X.env.scope.names.lookup x = some .local := by first | exact .inl rfl | exact .inr rfl) :
    DS z (.Assign [.Name x pos'] e pos) (dAsg te (dgName i)) := by
  obtain ⟨w, p, lw⟩ := h
  exact ⟨_, ps_set hN hi hx p hs hf, fun m r M σ H E Dd s q l => lw m r M σ H _ _ s q fun d M1 m1 v H1 q1 g1 r1 d1 => l.nx _ _ _ _ _ q1 g1 ((s.grow g1 r1).set d1)⟩
/-! o[i] = e, in the order of a statement -/
def dPut (to ti te : DTE) : DTS := fun D r M => te r M fun d M1 => to r M1 fun o M2 => ti r M2 fun i M3 => qSet o i d M3 fun M4 => D.nx r M4
/-! x op= e -/
def dAug (i : Nat) (te : DTE) (rd : DR2) : DTS := fun D r M => match r[i]? with
  | some (some x) => te r M fun y M1 => rd x y M1 fun w M2 => D.nx (r.set i (some w)) M2
  | _ => False
theorem ds_aug (i : Nat) {x : Str} {op : Operator} {rd : DR2} {pos' : Pos} (hN : z.X.N.Nodup) (hop : DOp z (inplaceOp op) rd) (h : DE z e te) (hi : z.X.N[i]? = some x := by rfl) (hx : Loc z.X.env.scope x := by first | exact Or.inl rfl | exact Or.inr rfl)
    (hf : z.X.fn x = true ∨ z.X.env.scope.names.lookup x = some .local := by first | exact .inl rfl | exact .inr rfl) : DS z (.AugAssign (.Name x pos') op e pos) (dAug i te rd) := by
  obtain ⟨w, p, lw⟩ := h
  obtain ⟨rr, o, lo⟩ := hop
  refine ⟨_, ps_aug hN hi hx p (fun pins s σ H x y v u Q I rx ry h => o pins s σ H x y v u Q I rx ry h) hf, fun m r M σ H E Dd s q l => ?_⟩
  unfold dAug at q
  split at q
  · rename_i x hx
    obtain ⟨v, ev, rv⟩ := s.sl _ _ hx
    refine ⟨v, ev, lw m r M σ H _ _ s q fun d M1 m1 w H1 q1 g1 r1 d1 => ?_⟩
    exact lo m1 M1 H1 v w _ d _ _ r1 (rv.grow g1) d1 q1 fun d2 M2 m2 w2 H2 q2 g2 r2 d2' => l.nx _ _ _ _ _ q2 (g1.trans g2) ((s.grow (g1.trans g2) r2).set d2')
  · exact q.elim
def iAdd : DR2 := fun x y M Q => match x, y with
  | .int i, .int j => Q (.int (i + j)) M
  | .str s, .str t => s.length + t.length ≤ sizeLine ∧ Q (.str (s ++ t)) M
  | .loc i, .loc j => (match M[i]?, M[j]? with
    | some (.lst xs), some (.lst ys) => xs.length + ys.length ≤ sizeLine ∧ Q (.loc i) (M.set i (.lst (xs ++ ys)))
    | _, _ => False)
  | _, _ => False
theorem dip_add : DOp z (inplaceOp .Add) iAdd := by
  refine ⟨_, iop_add.or (iop_add_str.or iop_ext), fun m M H x y dx dy Q Qd r d1 d2 h t => ?_⟩
  unfold iAdd at h
  split at h
  · exact .inl ⟨_, _, d1.int_, d2.int_, t _ _ _ _ _ h .refl r RD.int'⟩
  · exact .inr (.inl ⟨_, _, d1.str_, d2.str_, h.1, t _ _ _ _ _ h.2 .refl r RD.str'⟩)
  · split at h
    · rename_i e1 e2
      obtain ⟨a, vs, rfl, ea, s1, q1⟩ := r.lst d1 e1
      obtain ⟨b, ws, rfl, _, s2, q2⟩ := r.lst d2 e2
      exact .inr (.inr ⟨a, b, vs, ws, rfl, rfl, s1, s2, by rw [q1.length, q2.length]; exact h.1, put_lst r ea (by rw [s1]; trivial) (q1.append q2) d1 h.2 t⟩)
    · exact h.elim
  · exact h.elim
def iSub : DR2 := qInt0 fun i j => .int (i - j)
theorem dip_sub : DOp z (inplaceOp .Sub) iSub := ⟨_, iop_sub, lr_int0 fun _ _ _ _ => RD.int'⟩
def iMul : DR2 := qInt CMul fun i j => .int (i * j)
theorem dip_mul : DOp z (inplaceOp .Mult) iMul := ⟨_, iop_mul, lr_int fun _ _ _ _ => RD.int'⟩
def iDiv : DR2 := qInt CDiv fun i j => .int (i / j)
theorem dip_fdiv : DOp z (inplaceOp .FloorDiv) iDiv := ⟨_, iop_fdiv, lr_int fun _ _ _ _ => RD.int'⟩
def iMod : DR2 := qInt (fun _ j => 0 < j) fun i j => .int (i % j)
theorem dip_mod : DOp z (inplaceOp .Mod) iMod := ⟨_, iop_mod, lr_int fun _ _ _ _ => RD.int'⟩
/-! while -/
def dWhile (c : DTT) (tb : DTS) : DTS := fun D r M => ∃ W : Nat → Rho → Mem → Prop, (∃ k, W k r M) ∧ ∀ k r M, W k r M →
  c r M fun b M1 => match b with
    | true => tb { D with nx := fun r' M' => ∃ j, j < k ∧ W j r' M', ct := fun r' M' => ∃ j, j < k ∧ W j r' M', bk := D.nx } r M1
    | false => D.nx r M1
theorem ds_while {body : List Stmt} {tb : DTS} (hp : PassesOwn (model z.X.prog z.X.w) z.X.A z.X.env z.X.xe) (hc : DT z c tt) (hb : DSs z body tb) : DS z (.While c body [] pos) (dWhile tt tb) := by
  obtain ⟨w, p, lw⟩ := hc
  obtain ⟨wb, pb, lb⟩ := hb
  refine ⟨_, ps_while hp p pb, fun m r M σ H E Dd s q l => ?_⟩
  obtain ⟨W, ⟨k0, w0⟩, turn⟩ := q
  refine ⟨fun k σ' H' => ∃ m' r' M', Grow m H m' H' ∧ RS z m' r' M' σ' H' ∧ W k r' M', ⟨k0, m, r, M, .refl, s, w0⟩, ?_⟩
  rintro k σ1 H1 ⟨m1, r1, M1, g1, s1, w1⟩
  refine lw m1 r1 M1 σ1 H1 _ _ s1 (turn k r1 M1 w1) fun b M2 m2 H2 q2 g2 rm2 => ?_
  cases b with
  | true =>
    rw [if_pos rfl]
    refine ⟨fun σ' H' => ∃ j, j < k ∧ ∃ m' r' M', Grow m H m' H' ∧ RS z m' r' M' σ' H' ∧ W j r' M', fun σ' H' ⟨j, hj, q⟩ => ⟨j, hj, q⟩, ?_⟩
    refine lb m2 r1 M2 σ1 H2 _ _ (s1.grow g2 rm2) q2 ⟨?_, (l.grow (g1.trans g2)).rt, (l.grow (g1.trans g2)).nx, ?_⟩
    · rintro r' M' m' σ' H' ⟨j, hj, wj⟩ g' s'
      exact ⟨j, hj, m', r', M', (g1.trans g2).trans g', s', wj⟩
    · rintro r' M' m' σ' H' ⟨j, hj, wj⟩ g' s'
      exact ⟨j, hj, m', r', M', (g1.trans g2).trans g', s', wj⟩
  | false =>
    rw [if_neg (by decide)]
    exact l.nx _ _ _ _ _ q2 (g1.trans g2) (s1.grow g2 rm2)
/-! for -/
def forGo (ok : Mem → Prop) (g : DTG) (tb : DTS) (Dd : DEnds) : List D → Rho → Mem → Prop
  | [], r, M => ok M ∧ Dd.nx r M
  | x :: rest, r, M => ok M ∧ g x r M fun r2 M2 => tb { nx := forGo ok g tb Dd rest, rt := Dd.rt, bk := Dd.nx, ct := forGo ok g tb Dd rest } r2 M2
def dFor (ti : DTI) (g : DTG) (tb : DTS) : DTS := fun D r M => ti r M fun it M1 => forGo it.ok g tb D it.items r M1
theorem ds_for {tg iter : Expr} {body : List Stmt} {ti : DTI} {g : DTG} {tb : DTS} (hp : PassesOwn (model z.X.prog z.X.w) z.X.A z.X.env z.X.xe) (hc : z.X.calm = true) (hi : DI z tg iter ti) (hg : DG z tg g) (hb : DSs z body tb)
    (hs : ∀ x, foldedSetIterable iter z.X.env x = pure x := by intro _; rfl) : DS z (.For tg iter body [] pos) (dFor ti g tb) := by
  obtain ⟨wi, pi, li⟩ := hi
  obtain ⟨wg, pg, lg⟩ := hg
  obtain ⟨wb, pb, lb⟩ := hb
  refine ⟨_, ps_for hp hc pi pg pb hs, fun m r M σ H E Dd s q l => ?_⟩
  refine li m r M σ H _ _ s q fun it M1 m1 H1 J q1 g1 r1 ok => ?_
  have l1 := l.grow g1
  refine ⟨fun i k σ' H' => k = it.items.length - i ∧ i ≤ it.items.length ∧ ∃ m' r' M', Grow m1 H1 m' H' ∧ RS z m' r' M' σ' H' ∧ forGo it.ok g tb Dd (it.items.drop i) r' M', ⟨it.items.length, by simp, Nat.zero_le _, m1, r, M1, .refl, s.grow g1 r1, by rw [List.drop_zero]; exact q1⟩, ?_⟩
  rintro i k σ2 H2 ⟨rfl, hi, m2, r2, M2, g2, s2, w2⟩
  by_cases hlt : i < it.items.length
  · rw [List.drop_eq_getElem_cons hlt] at w2
    obtain ⟨hok, w2⟩ := w2
    refine .inr ⟨ok.go i m2 M2 H2 hlt g2 s2.rm hok, fun σ' H' => ∃ m' r' M', Grow m1 H1 m' H' ∧ RS z m' r' M' σ' H' ∧ forGo it.ok g tb Dd (it.items.drop (i + 1)) r' M', fun σ' H' q' => ⟨it.items.length - (i + 1), by omega, rfl, hlt, q'⟩, fun x H3 y => ?_⟩
    obtain ⟨d, ed, hH, rd⟩ := ok.yld i m2 M2 H2 x H3 hlt g2 s2.rm hok y
    have ed2 : d = it.items[i] := by
      rw [List.getElem?_eq_getElem hlt] at ed
      exact (Option.some.inj ed).symm
    subst ed2
    have g3 : Grow m2 H2 m2 H3 ∧ RM z.X.K m2 H3 M2 := by
      rcases hH with rfl | ⟨p, o, hp, rfl⟩
      · exact ⟨.refl, s2.rm⟩
      · exact ⟨Grow.new hp, s2.rm.new hp⟩
    refine lg m2 r2 M2 σ2 H3 _ x _ _ (s2.grow g3.1 g3.2) rd w2 fun r4 M4 m4 σ4 H4 q4 g4 s4 => ?_
    have g24 := g3.1.trans g4
    refine lb m4 r4 M4 σ4 H4 _ _ s4 q4 ⟨?_, (l1.grow (g2.trans g24)).rt, (l1.grow (g2.trans g24)).nx, ?_⟩
    · exact fun r' M' m' σ' H' q' g' s' => ⟨m', r', M', (g2.trans g24).trans g', s', q'⟩
    · exact fun r' M' m' σ' H' q' g' s' => ⟨m', r', M', (g2.trans g24).trans g', s', q'⟩
  · have e : i = it.items.length := by omega
    subst e
    rw [List.drop_length] at w2
    exact .inl ⟨ok.stop m2 M2 H2 g2 s2.rm w2.1, l1.nx _ _ _ _ _ w2.2 g2 s2⟩
end
end DL
namespace DL
open PySem L2

/-! ### one reading for all contexts -/
def canE (K : PySem.W.Frag) (m0 : List Addr) (H0 : Hp) (t : DTE) : TE := fun σ H Q => ∃ m r M Qd, Grow m0 H0 m H ∧ RM K m H M ∧ r.length = σ.length ∧ (∀ (i : Nat) (d : D), r[i]? = some (some d) → ∃ v, σ[i]? = some (some v) ∧ RD K m H d v) ∧ t r M Qd ∧ Then K m H Qd Q
def canT (K : PySem.W.Frag) (m0 : List Addr) (H0 : Hp) (t : DTT) : TT := fun σ H Q => ∃ m r M Qd, Grow m0 H0 m H ∧ RM K m H M ∧ r.length = σ.length ∧ (∀ (i : Nat) (d : D), r[i]? = some (some d) → ∃ v, σ[i]? = some (some v) ∧ RD K m H d v) ∧ t r M Qd ∧ ThenT K m H Qd Q
section
variable {z : Zx} {e : Expr} {te : DTE} {tt : DTT}
theorem DE.can (h : DE z e te) : PE z.X e (canE z.X.K z.m0 z.H0 te) := by
  obtain ⟨w, p, l⟩ := h
  refine ⟨fun pins s σ H Q I q => p.run pins s σ H Q I ?_⟩
  obtain ⟨m, r, M, Qd, g, rm, hl, sl, q, t⟩ := q
  exact l m r M σ H Q Qd ⟨g, rm, hl, sl⟩ q t
theorem DT.can (h : DT z e tt) : PT z.X e (canT z.X.K z.m0 z.H0 tt) := by
  obtain ⟨w, p, l⟩ := h
  refine ⟨fun pins s σ H Q I q => p.run pins s σ H Q I ?_⟩
  obtain ⟨m, r, M, Qd, g, rm, hl, sl, q, t⟩ := q
  exact l m r M σ H Q Qd ⟨g, rm, hl, sl⟩ q t
end
/-! the tests of a comprehension -/
def DTs (z : Zx) (ifs : List Expr) (t : DTT) : Prop := PTs z.X ifs (canT z.X.K z.m0 z.H0 t)
def dYes : DTT := fun _ M Q => Q true M
theorem dts_nil {z : Zx} : DTs z [] dYes := ⟨fun pins s σ H Q I hw => by
  obtain ⟨m, r, M, Qd, g, rm, hl, sl, q, t⟩ := hw
  exact wpAny_tests_nil ⟨H, I, t _ _ _ _ q .refl rm⟩⟩
theorem dts_one {z : Zx} {c : Expr} {t : DTT} (h : DT z c t) : DTs z [c] t := pts_one h.can

def wipeD (r : Rho) : List Nat → Rho
  | [] => r
  | v :: vs => (wipeD r vs).set v none
theorem wipeD_length (r : Rho) : ∀ vs : List Nat, (wipeD r vs).length = r.length
  | [] => rfl
  | v :: vs => by unfold wipeD; rw [List.length_set, wipeD_length r vs]
theorem wipeD_some {r : Rho} {i : Nat} {x : D} : ∀ {vs : List Nat}, (wipeD r vs)[i]? = some (some x) → r[i]? = some (some x) ∧ i ∉ vs
  | [], h => ⟨h, by simp⟩
  | v :: vs, h => by
    unfold wipeD at h
    by_cases e : v = i
    · subst e
      by_cases hl : v < (wipeD r vs).length
      · rw [List.getElem?_set_self hl] at h; cases h
      · rw [List.getElem?_eq_none (by rw [List.length_set]; omega)] at h; cases h
    · rw [List.getElem?_set_ne e] at h
      obtain ⟨h1, h2⟩ := wipeD_some h
      exact ⟨h1, by simp [h2]; exact fun q => e q.symm⟩
theorem wipe_at {σ : L2.St} {i : Nat} : ∀ {vs : List Nat}, (wipe σ vs)[i]? = if i ∈ vs then (if i < σ.length then some none else none) else σ[i]?
  | [] => by simp [wipe]
  | v :: vs => by
    unfold wipe
    by_cases e : v = i
    · subst e
      by_cases hl : v < (wipe σ vs).length
      · rw [List.getElem?_set_self hl]
        rw [wipe_length] at hl
        simp [hl]
      · rw [List.getElem?_eq_none (by rw [List.length_set]; omega)]
        rw [wipe_length] at hl
        simp [hl]
    · rw [List.getElem?_set_ne e, wipe_at (vs := vs)]
      have : i ∈ v :: vs ↔ i ∈ vs := ⟨fun q => (List.mem_cons.mp q).elim (fun z => absurd z.symm e) id, fun q => List.mem_cons_of_mem _ q⟩
      by_cases hm : i ∈ vs
      · rw [if_pos hm, if_pos (this.mpr hm)]
      · rw [if_neg hm, if_neg (fun q => hm (this.mp q))]
theorem wipe_set {σ : L2.St} {j : Nat} {x : Option V} {vs : List Nat} (h : j ∈ vs) : wipe ((wipe σ vs).set j x) vs = wipe σ vs := by
  apply List.ext_getElem?
  intro i
  rw [wipe_at, wipe_at, List.length_set, wipe_length]
  by_cases e : i ∈ vs
  · simp [e]
  · rw [if_neg e, if_neg e, List.getElem?_set_ne (fun (q : j = i) => e (by rw [← q]; exact h)), wipe_at, if_neg e]

/-! ### [e for x in it if ..] -/
def lcGo (ok : Mem → Prop) (j : Nat) (r0 : Rho) (tt : DTT) (te : DTE) : List D → Mem → List D → (List D → Mem → Prop) → Prop
  | [], M, acc, k => ok M ∧ k acc M
  | x :: rest, M, acc, k => ok M ∧ tt (r0.set j (some x)) M fun b M2 => match b with
    | true => te (r0.set j (some x)) M2 fun y M3 => acc.length < sizeLine ∧ lcGo ok j r0 tt te rest M3 (acc ++ [y]) k
    | false => lcGo ok j r0 tt te rest M2 acc k
def dLc (ti : DTI) (j : Nat) (vs : List Nat) (tt : DTT) (te : DTE) : DTE := fun r M Q => ti r M fun it M1 => lcGo it.ok j (wipeD r vs) tt te it.items M1 [] fun acc M2 => Q (.loc M2.length) (M2 ++ [.lst acc])

section
variable {K : PySem.W.Frag} {m m' : List Addr} {H H' : Hp} {M : Mem}
/-- an object that is none of the cells comes among them -/
theorem RM.adopt {p : Addr} {o : MO} (r : RM K m H M) (hp : p ∉ m) (q : RO K (m ++ [p]) H o p) : RM K (m ++ [p]) H (M ++ [o]) where
  len := by simp [r.len]
  nd := by
    rw [List.nodup_append]
    refine ⟨r.nd, by simp, fun a ha b hb e => ?_⟩
    have eb : b = p := by simpa using hb
    rw [eb] at e
    rw [e] at ha
    exact hp ha
  ob := fun n u e => by
    by_cases hn : n < M.length
    · rw [List.getElem?_append_left hn] at e
      obtain ⟨a, ea, q⟩ := r.ob n u e
      exact ⟨a, by rw [List.getElem?_append_left (by rw [r.len]; exact hn)]; exact ea, q.mono (List.prefix_append _ _) ⟨fun _ _ h => h, fun _ _ h => h⟩ fun u e => e⟩
    · have hn2 : n = M.length := by
        have := (List.getElem?_eq_some_iff.mp e).1
        simp at this
        omega
      subst hn2
      have eu : o = u := by simpa using e
      subst eu
      exact ⟨p, by rw [← r.len]; simp, q⟩
/-- a tracked object that is no cell is written -/
theorem Grow.side {p : Addr} {ho : HO} {xs : List V} (g : Grow m H m' H') (hp : H p = none) (h' : H' p = some (.lst xs)) : Grow m H m' (upd H' p ho) where
  pre := g.pre
  fresh := g.fresh
  keep := fun b o e hb => by rw [upd_ne (ne_of_none e hp)]; exact g.keep b o e hb
  frz := fun b o u e => by rw [upd_ne (ne_of_none e hp)]; exact g.frz b o u e
  tup := fun b u e => by rw [upd_ne (ne_of_none e hp)]; exact g.tup b u e
theorem RM.side {p : Addr} {xs ys : List V} (r : RM K m H M) (hp : p ∉ m) (h : H p = some (.lst xs)) : RM K m (upd H p (.lst ys)) M where
  len := r.len
  nd := r.nd
  ob := fun n u e => by
    obtain ⟨a, ea, q⟩ := r.ob n u e
    have hne : a ≠ p := fun z => hp (z ▸ List.mem_of_getElem? ea)
    refine ⟨a, ea, q.mono (List.prefix_refl _) (TupStay.of (fun b us eb => ?_) fun b o us eb => ?_) fun u e => by rw [upd_ne hne]; exact e⟩
    · rw [upd_ne (fun z => by rw [z, h] at eb; cases eb)]; exact eb
    · rw [upd_ne (fun z => by rw [z, h] at eb; cases eb)]; exact eb
end
section
variable {z : Zx}
theorem le_lc {wi : TI} {ti : DTI} {j : Nat} {vs : List Nat} {tt : DTT} {te : DTE} (hj : j ∈ vs) (hi : LI z wi ti) : LE z (tLc wi (gName j) (canT z.X.K z.m0 z.H0 tt) (canE z.X.K z.m0 z.H0 te) vs) (dLc ti j vs tt te) := fun m r M σ H Q Qd s q t => by
  refine hi m r M σ H _ _ s q fun it M1 m1 H1 J q1 g1 r1 ok => ?_
  intro p hp
  have l1 := t.grow g1
  have np : p ∉ m1 := r1.not_mem hp
  have gp : Grow m1 H1 m1 (upd H1 p (.lst [])) := Grow.new hp
  refine ⟨fun i k H' => k = it.items.length - i ∧ i ≤ it.items.length ∧ ∃ m' M' acc us, Grow m1 H1 m' H' ∧ RM z.X.K m' H' M' ∧ p ∉ m' ∧ H' p = some (.lst us) ∧ RDs z.X.K m' H' acc us ∧
    lcGo it.ok j (wipeD r vs) tt te (it.items.drop i) M' acc (fun acc M2 => Qd (.loc M2.length) (M2 ++ [.lst acc])), ⟨it.items.length, by simp, Nat.zero_le _, m1, M1, [], [], gp, r1.new hp, np, upd_same, RDs.nil', by rw [List.drop_zero]; exact q1⟩, ?_⟩
  rintro i k H2 ⟨rfl, hi, m2, M2, acc, us, g2, rm2, np2, hp2, da, w2⟩
  by_cases hlt : i < it.items.length
  · rw [List.drop_eq_getElem_cons hlt] at w2
    obtain ⟨hok, w2⟩ := w2
    refine .inr ⟨ok.go i m2 M2 H2 hlt g2 rm2 hok, fun H' => ∃ m' M' acc us, Grow m1 H1 m' H' ∧ RM z.X.K m' H' M' ∧ p ∉ m' ∧ H' p = some (.lst us) ∧ RDs z.X.K m' H' acc us ∧
      lcGo it.ok j (wipeD r vs) tt te (it.items.drop (i + 1)) M' acc (fun acc M2 => Qd (.loc M2.length) (M2 ++ [.lst acc])), fun H' q' => ⟨it.items.length - (i + 1), by omega, rfl, hlt, q'⟩, fun x H3 y => ?_⟩
    obtain ⟨d, ed, hH, rd⟩ := ok.yld i m2 M2 H2 x H3 hlt g2 rm2 hok y
    have ed2 : d = it.items[i] := by
      rw [List.getElem?_eq_getElem hlt] at ed
      exact (Option.some.inj ed).symm
    subst ed2
    have g3 : Grow m2 H2 m2 H3 ∧ RM z.X.K m2 H3 M2 ∧ H3 p = some (.lst us) := by
      rcases hH with rfl | ⟨p', o, hp', rfl⟩
      · exact ⟨.refl, rm2, hp2⟩
      · exact ⟨Grow.new hp', rm2.new hp', by rw [upd_ne (ne_of_none hp2 hp')]; exact hp2⟩
    obtain ⟨g3, rm3, hp3⟩ := g3
    -- the slots
    have sl3 : ∀ (i' : Nat) (d : D), ((wipeD r vs).set j (some it.items[i]))[i']? = some (some d) → ∃ v, ((wipe σ vs).set j (some x))[i']? = some (some v) ∧ RD z.X.K m2 H3 d v := fun i' d e => by
      by_cases hij : i' = j
      · subst hij
        have hl : i' < (wipeD r vs).length := by
          have := (List.getElem?_eq_some_iff.mp e).1
          simpa using this
        rw [List.getElem?_set_self hl] at e
        cases e
        refine ⟨x, ?_, rd⟩
        rw [List.getElem?_set_self (by rw [wipe_length, ← s.len, ← wipeD_length r vs]; exact hl)]
      · rw [List.getElem?_set_ne (fun q => hij q.symm)] at e ⊢
        obtain ⟨e1, e2⟩ := wipeD_some e
        obtain ⟨v, ev, rv⟩ := s.sl i' d e1
        refine ⟨v, ?_, (rv.grow (g1.trans g2)).grow g3⟩
        rw [wipe_at, if_neg e2]
        exact ev
    have len3 : ((wipeD r vs).set j (some it.items[i])).length = ((wipe σ vs).set j (some x)).length := by
      rw [List.length_set, List.length_set, wipe_length, wipeD_length, s.len]
    have gz3 : Grow z.m0 z.H0 m2 H3 := ((s.g.trans g1).trans g2).trans g3
    refine ⟨wipe_set hj, m2, _, M2, _, gz3, rm3, len3, sl3, w2, fun b M4 m4 H4 q4 g4 rm4 => ?_⟩
    have np4 : p ∉ m4 := fun hm => by
      by_cases h2 : p ∈ m2
      · exact np2 h2
      · have := g4.fresh p hm h2
        rw [hp3] at this
        cases this
    have hp4 : H4 p = some (.lst us) := g4.keep _ _ hp3 np2
    have da4 : RDs z.X.K m4 H4 acc us := (da.grow g3).grow g4
    have g14 : Grow m1 H1 m4 H4 := (g2.trans g3).trans g4
    cases b with
    | false => exact iteF ⟨m4, M4, acc, us, g14, rm4, np4, hp4, da4, q4⟩
    | true =>
      refine iteT ⟨m4, _, M4, _, gz3.trans g4, rm4, len3, fun i' d e => ?_, q4, fun y M5 m5 v5 H5 q5 g5 rm5 d5 => ?_⟩
      · obtain ⟨v, ev, rv⟩ := sl3 i' d e
        exact ⟨v, ev, rv.grow g4⟩
      · have np5 : p ∉ m5 := fun hm => by
          by_cases h2 : p ∈ m4
          · exact np4 h2
          · have := g5.fresh p hm h2
            rw [hp4] at this
            cases this
        have hp5 : H5 p = some (.lst us) := g5.keep _ _ hp4 np4
        have da5 : RDs z.X.K m5 H5 acc us := da4.grow g5
        have st : TupStay z.X.K H5 (upd H5 p (.lst (us ++ [v5]))) := TupStay.of (fun b xs eb => by rw [upd_ne (fun w => by rw [w, hp5] at eb; cases eb)]; exact eb) fun b o xs eb => by rw [upd_ne (fun w => by rw [w, hp5] at eb; cases eb)]; exact eb
        refine ⟨us, hp5, by rw [da5.length]; exact q5.1, m5, M5, acc ++ [y], us ++ [v5], (g14.trans g5).side hp hp5, rm5.side np5 hp5, np5, upd_same, ?_, q5.2⟩
        exact (da5.append (RDs.cons' d5 RDs.nil')).mono (List.prefix_refl _) st
  · have e : i = it.items.length := by omega
    subst e
    rw [List.drop_length] at w2
    refine .inl ⟨ok.stop m2 M2 H2 g2 rm2 w2.1, ?_⟩
    have gz : Grow m1 H1 (m2 ++ [p]) H2 :=
      ⟨List.IsPrefix.trans g2.pre (List.prefix_append _ _), fun b hb hn => by
        rcases List.mem_append.mp hb with h | h
        · exact g2.fresh b h hn
        · have e : b = p := by simpa using h
          rw [e]; exact hp, g2.keep, g2.frz, g2.tup⟩
    refine l1 _ _ _ _ _ w2.2 gz (rm2.adopt np2 (o := .lst acc) ⟨us, hp2, da.mono (List.prefix_append _ _) ⟨fun _ _ h => h, fun _ _ h => h⟩⟩) ?_
    unfold RD
    exact ⟨p, rfl, by rw [← rm2.len]; simp⟩
theorem de_lc (j : Nat) {elt iter : Expr} {ifs : List Expr} {scope : Scope} {own : List (Str × Nat)} {x : Str} {pos px : Pos} {ti : DTI} {tt : DTT} {te : DTE} (hc : z.X.calm = true) (hN : z.X.N.Nodup) (hi : DI z (.Name x px) iter ti) (ok : blkC z.X.N z.X.env.scope scope own = true)
    (hj : j ∈ own.map (·.2))
    (hg : ∀ (s : Shared) (H : Hp) (C : Addr) (cl : List (Str × Addr)) (fp : List Addr), PG (z.X.blk s H scope (compEnvC scope cl C z.X.env) fp) (.Name x px) (gName j))
    (ht : ∀ (s : Shared) (H : Hp) (C : Addr) (cl : List (Str × Addr)) (fp : List Addr), DTs ⟨z.X.blk s H scope (compEnvC scope cl C z.X.env) fp, z.m0, z.H0⟩ ifs tt)
    (he : ∀ (s : Shared) (H : Hp) (C : Addr) (cl : List (Str × Addr)) (fp : List Addr), DE ⟨z.X.blk s H scope (compEnvC scope cl C z.X.env) fp, z.m0, z.H0⟩ elt te) (hs : ∀ x, foldedSetIterable iter z.X.env x = pure x := by intro _; rfl) :
    DE z (.ListComp elt [⟨.Name x px, iter, ifs, 0⟩] scope pos) (dLc ti j (own.map (·.2)) tt te) := by
  obtain ⟨wi, pi, li⟩ := hi
  exact ⟨_, pe_lc (own := own) (tt := canT z.X.K z.m0 z.H0 tt) (te := canE z.X.K z.m0 z.H0 te) hc hN pi (blkOk_by ok) hg ht (fun s H C cl fp => (he s H C cl fp).can) hs, le_lc hj li⟩
theorem ds_setLc (i j : Nat) {y : Str} {py spos : Pos} {elt iter : Expr} {ifs : List Expr} {scope : Scope} {own : List (Str × Nat)} {x : Str} {pos px : Pos} {ti : DTI} {tt : DTT} {te : DTE} (hc : z.X.calm = true) (hN : z.X.N.Nodup) (hi : DI z (.Name x px) iter ti) (ok : blkC z.X.N z.X.env.scope scope own = true)
    (hj : j ∈ own.map (·.2)) (hsw : swapsWith (.ListComp elt [⟨.Name x px, iter, ifs, 0⟩] scope pos) (some (.Name y py)) spos.line z.X.env = pure true)
    (hg : ∀ (s : Shared) (H : Hp) (C : Addr) (cl : List (Str × Addr)) (fp : List Addr), PG (z.X.blk s H scope (compEnvC scope cl C z.X.env) fp) (.Name x px) (gName j))
    (ht : ∀ (s : Shared) (H : Hp) (C : Addr) (cl : List (Str × Addr)) (fp : List Addr), DTs ⟨z.X.blk s H scope (compEnvC scope cl C z.X.env) fp, z.m0, z.H0⟩ ifs tt)
    (he : ∀ (s : Shared) (H : Hp) (C : Addr) (cl : List (Str × Addr)) (fp : List Addr), DE ⟨z.X.blk s H scope (compEnvC scope cl C z.X.env) fp, z.m0, z.H0⟩ elt te) (hy : z.X.N[i]? = some y := by rfl) (hyl : z.X.env.scope.names.lookup y = some .local := by rfl) (hs : ∀ x, foldedSetIterable iter z.X.env x = pure x := by intro _; rfl) :
    DS z (.Assign [.Name y py] (.ListComp elt [⟨.Name x px, iter, ifs, 0⟩] scope pos) spos) (dAsg (dLc ti j (own.map (·.2)) tt te) (dgName i)) := by
  obtain ⟨wi, pi, li⟩ := hi
  refine ⟨_, ps_setLc (own := own) (tt := canT z.X.K z.m0 z.H0 tt) (te := canE z.X.K z.m0 z.H0 te) hc hN hy hyl hsw pi (blkOk_by ok) hg ht (fun s H C cl fp => (he s H C cl fp).can) hs, fun m r M σ H E Dd s q l => ?_⟩
  exact le_lc hj li m r M σ H _ _ s q fun d M1 m1 v H1 q1 g1 r1 d1 => l.nx _ _ _ _ _ q1 g1 ((s.grow g1 r1).set d1)
end
end DL
namespace DL
open PySem L2

/-! ### a builtin value's methods -/
abbrev DRM := D → List D → Mem → QD → Prop
def LRM (K : PySem.W.Frag) (rr : V → List V → Hp → VK → Prop) (rd : DRM) : Prop := ∀ m M H x vs dx ds Q Qd, RM K m H M → RD K m H dx x → RDs K m H ds vs → rd dx ds M Qd → Then K m H Qd Q → rr x vs H Q
def DMt (z : Zx) (id : String) (rd : DRM) : Prop := ∃ rr, MtR z.X id rr ∧ LRM z.X.K rr rd
def isTy (T : String) (x : D) (M : Mem) : Prop := match T with
  | "list" => (lstD x M).isSome = true
  | "str" => (match x with
    | .str _ => True
    | _ => False)
  | "dict" => (match x with
    | .loc n => (match M[n]? with
      | some (.dic _) => True
      | _ => False)
    | _ => False)
  | _ => False
section
variable {z : Zx} {K : PySem.W.Frag} {m : List Addr} {H : Hp} {M : Mem}
theorem isTy_of {T : String} {x : D} {v : V} (r : RM K m H M) (d : RD K m H x v) (h : isTy T x M) : tyV K T v H := by
  unfold isTy at h
  split at h
  · cases e : lstD x M with
    | none => rw [e] at h; cases h
    | some ds =>
      obtain ⟨a, vs, rfl, s, q⟩ := lst_of r d e
      exact .inl ⟨rfl, vs, s⟩
  · split at h
    · rw [d.str_]; exact (show "str" = "str" from rfl)
    · exact h.elim
  · split at h
    · split at h
      · rename_i e
        obtain ⟨a, vs, rfl, _, s, q⟩ := r.dic d e
        exact .inr (.inr (.inl ⟨rfl, .inl ⟨vs, s⟩⟩))
      · exact h.elim
    · exact h.elim
  · exact h.elim
def dBM (T : String) (rd : DRM) (to : DTE) (ta : DTA) : DTE := fun r M Q => to r M fun x M1 => isTy T x M1 ∧ ta r M1 fun xs M2 => rd x xs M2 Q
def dBM0 (T : String) (rd : DRM) (to : DTE) : DTE := fun r M Q => to r M fun x M1 => isTy T x M1 ∧ rd x [] M1 Q
theorem de_bm {o e : Expr} {es : List Expr} {to : DTE} {ta : DTA} {name : Str} {apos cpos : Pos} {T id : String} {rd : DRM} (pa : PlainAttrs T) (slot : Slot T name id) (hty : typeOf (.builtin id) = pure (.type "method_descriptor")) (hm : DMt z id rd) (ho : DE z o to) (ha : DA z (e :: es) ta)
    (hbase : attributeBase o name z.X.env (eval o z.X.env) = eval o z.X.env := by rfl)
    (hfew : ((backTo cpos (starEach (e :: es) z.X.env)).all (fun x => !x.1) && (backToKw cpos (keywordEach [] z.X.env)).all (fun x => x.1.isSome)
      && decide ((e :: es).length + ([] : List Keyword).length + (if ([] : List Keyword).isEmpty then 0 else 1) < 30)) = true := by rfl)
    (hline : (apos.endLine == cpos.line) = true := by rfl) (hs : starEach (e :: es) z.X.env = (false, eval e z.X.env) :: starEach es z.X.env := by rfl) (hplain : (backTo cpos (starEach es z.X.env)).any (·.1) = false := by rfl) :
    DE z (.Call (.Attribute o name apos) (e :: es) [] cpos) (dBM T rd to ta) := by
  obtain ⟨rr, hmr, lm⟩ := hm
  obtain ⟨wo, po, lo⟩ := ho
  obtain ⟨wa, pa', la⟩ := ha
  refine ⟨_, pe_bm pa slot hty hmr po pa' hbase hfew hline hs hplain, fun m r M σ H Q Qd s q t => ?_⟩
  refine lo m r M σ H _ _ s q fun x M1 m1 v H1 q1 g1 r1 d1 => ⟨isTy_of r1 d1 q1.1, ?_⟩
  refine la m1 r M1 σ H1 _ _ (s.grow g1 r1) q1.2 fun xs M2 m2 vs H2 q2 g2 r2 d2 => ?_
  exact lm m2 M2 H2 v vs x xs Q Qd r2 (d1.grow g2) d2 q2 (t.grow (g1.trans g2))
theorem de_bm0 {o : Expr} {to : DTE} {name : Str} {apos cpos : Pos} {T id : String} {rd : DRM} (pa : PlainAttrs T) (slot : Slot T name id) (hty : typeOf (.builtin id) = pure (.type "method_descriptor")) (hm : DMt z id rd) (ho : DE z o to)
    (hbase : attributeBase o name z.X.env (eval o z.X.env) = eval o z.X.env := by rfl) (hline : (apos.endLine == cpos.line) = true := by rfl) : DE z (.Call (.Attribute o name apos) [] [] cpos) (dBM0 T rd to) := by
  obtain ⟨rr, hmr, lm⟩ := hm
  obtain ⟨wo, po, lo⟩ := ho
  refine ⟨_, pe_bm0 pa slot hty hmr po hbase hline, fun m r M σ H Q Qd s q t => ?_⟩
  refine lo m r M σ H _ _ s q fun x M1 m1 v H1 q1 g1 r1 d1 => ⟨isTy_of r1 d1 q1.1, ?_⟩
  exact lm m1 M1 H1 v [] x [] Q Qd r1 d1 RDs.nil' q1.2 (t.grow g1)
/-! append, extend, pop, reverse, clear -/
def mAppend : DRM := fun x xs M Q => match x, xs with
  | .loc n, [y] => (match M[n]? with
    | some (.lst ds) => ds.length < sizeLine ∧ Q .non (M.set n (.lst (ds ++ [y])))
    | _ => False)
  | _, _ => False
theorem dm_append : DMt z "list.append" mAppend := by
  refine ⟨_, mt_append, fun m M H x vs dx ds Q Qd r d1 d2 h t => ?_⟩
  unfold mAppend at h
  split at h
  · split at h
    · rename_i e
      obtain ⟨a, us, rfl, ea, eh, q⟩ := r.lst d1 e
      obtain ⟨v, rfl, rv⟩ := d2.one_
      exact ⟨a, us, v, rfl, rfl, eh, by rw [q.length]; exact h.1, put_lst r ea (by rw [eh]; trivial) (q.append (RDs.cons' rv RDs.nil')) RD.non' h.2 t⟩
    · exact h.elim
  · exact h.elim
def rExtT (K : PySem.W.Frag) : V → List V → Hp → VK → Prop := fun x vs H Q => ∃ l b xs zs, x = .ref l ∧ vs = [.ref b] ∧ H l = some (.lst xs) ∧ SqT K H b zs ∧ xs.length + zs.length ≤ sizeLine ∧ Q .non (upd H l (.lst (xs ++ zs)))
theorem mt_extT {X : Cx} : MtR X "list.extend" (rExtT X.K) := by
  intro pins s σ H x vs v us Q I rx rv h
  obtain ⟨l, b, xs, zs, rfl, rfl, hH, hB, hz, q⟩ := h
  cases rx
  obtain ⟨u, rfl, ru⟩ := rv.one
  cases ru
  obtain ⟨z, its, n, r, hl, e⟩ := I.lstM hH
  obtain ⟨its2, r2, ⟨o2, e2, hc2, n2, hd2⟩, z2⟩ := I.tuple hB
  have hl2 := r2.length
  obtain ⟨oc, od, dt, sl⟩ := o2
  simp only at hc2 hd2
  subst hc2 hd2
  have hsz : its.toArray.size + its2.toArray.size ≤ sizeLine := by rw [List.size_toArray, List.size_toArray]; omega
  have hlong : ¬ (!its.toArray.isEmpty && Builtin.List.listTooLong (its.toArray.size + its2.toArray.size)) = true := by
    rw [notLongL hsz, Bool.and_false]
    exact Bool.false_ne_true
  refine call_meets PySem.F.slot_list_extend ⟨_, e, rfl⟩ PySem.F.entry_list_extend (PySem.F.args_list_extend_2 _ _)
    (PySem.dl_extend_tuple l its.toArray n b its2.toArray n2 od sl hlong (by rw [List.size_toArray]; omega) (by omega)) ⟨e, e2, ?_⟩
  refine ⟨.non, _, I.lset (its' := its ++ its2) hH e (by simp) (r.append r2) ?_, rfl, q⟩
  rw [List.length_append]
  omega
def mExtend : DRM := fun x xs M Q => match x, xs with
  | .loc n, [.loc k] => (match M[n]?, M[k]? with
    | some (.lst ds), some (.lst es) => ds.length + es.length ≤ sizeLine ∧ Q .non (M.set n (.lst (ds ++ es)))
    | _, _ => False)
  | .loc n, [.tup es] => (match M[n]? with
    | some (.lst ds) => ds.length + es.length ≤ sizeLine ∧ Q .non (M.set n (.lst (ds ++ es)))
    | _ => False)
  | _, _ => False
theorem dm_extend : DMt z "list.extend" mExtend := by
  refine ⟨_, MtR.or mt_extend mt_extT, fun m M H x vs dx ds Q Qd r d1 d2 h t => ?_⟩
  unfold mExtend at h
  split at h
  · split at h
    · rename_i e e'
      obtain ⟨a, us, rfl, ea, eh, q⟩ := r.lst d1 e
      obtain ⟨v, rfl, rv⟩ := d2.one_
      obtain ⟨b, ws, rfl, eb, eh', q'⟩ := r.lst rv e'
      exact .inl ⟨a, b, us, ws, rfl, rfl, eh, eh', by rw [q.length, q'.length]; exact h.1, put_lst r ea (by rw [eh]; trivial) (q.append q') RD.non' h.2 t⟩
    · exact h.elim
  · split at h
    · rename_i e
      obtain ⟨a, us, rfl, ea, eh, q⟩ := r.lst d1 e
      obtain ⟨v, rfl, rv⟩ := d2.one_
      obtain ⟨b, ws, rfl, eh', q'⟩ := rv.tup_
      exact .inr ⟨a, b, us, ws, rfl, rfl, eh, eh', by rw [q.length, q'.length]; exact h.1, put_lst r ea (by rw [eh]; trivial) (q.append q') RD.non' h.2 t⟩
    · exact h.elim
  · exact h.elim
def mPop : DRM := fun x xs M Q => match x, xs with
  | .loc n, [] => (match M[n]? with
    | some (.lst ds) => (match ds[ds.length - 1]? with
      | some y => Q y (M.set n (.lst ds.dropLast))
      | none => False)
    | _ => False)
  | .loc n, [.int i] => (match M[n]? with
    | some (.lst ds) => -(2 ^ 63) ≤ i ∧ i < 2 ^ 63 ∧ (match seqIndex? i ds.length with
      | some k => (match ds[k]? with
        | some y => Q y (M.set n (.lst (ds.eraseIdx k)))
        | none => False)
      | none => False)
    | _ => False)
  | _, _ => False
theorem RDs.eraseIdx {ds : List D} : ∀ {vs : List V} (i : Nat), RDs K m H ds vs → RDs K m H (ds.eraseIdx i) (vs.eraseIdx i) := by
  induction ds with
  | nil => intro vs i h; rw [h.nil_]; exact RDs.nil'
  | cons e ds ih =>
    intro vs i h
    obtain ⟨w, us, rfl, hd, hs⟩ := h.cons_
    cases i with
    | zero => exact hs
    | succ i => exact RDs.cons' hd (ih i hs)
theorem dm_pop : DMt z "list.pop" mPop := by
  refine ⟨_, MtR.or mt_pop mt_popAt, fun m M H x vs dx ds Q Qd r d1 d2 h t => ?_⟩
  unfold mPop at h
  split at h
  · split at h
    · rename_i e
      obtain ⟨a, us, rfl, ea, eh, q⟩ := r.lst d1 e
      split at h
      · rename_i y ey
        obtain ⟨v, ev, rv⟩ := q.get ey
        exact .inl ⟨a, us, v, rfl, d2.nil_, eh, by rw [q.length]; exact ev, put_lst r ea (by rw [eh]; trivial) q.dropLast rv h t⟩
      · exact h.elim
    · exact h.elim
  · split at h
    · rename_i e
      obtain ⟨a, us, rfl, ea, eh, q⟩ := r.lst d1 e
      obtain ⟨w, rfl, rw'⟩ := d2.one_
      obtain ⟨h1, h2, h⟩ := h
      split at h
      · rename_i k ek
        split at h
        · rename_i y ey
          obtain ⟨v, ev, rv⟩ := q.get ey
          exact .inr ⟨a, us, _, k, v, rfl, by rw [rw'.int_], eh, h1, h2, by rw [q.length]; exact ek, ev, put_lst r ea (by rw [eh]; trivial) (q.eraseIdx k) rv h t⟩
        · exact h.elim
      · exact h.elim
    · exact h.elim
  · exact h.elim
/-! index, count -/
def mIndex : DRM := fun x xs M Q => match xs with
  | [y] => (match lstD x M with
    | some ds => flatD y = true ∧ ds.all flatD = true ∧ (match ds.findIdx? (fun d => eqD d y) with
      | some j => Q (.int (j : Nat)) M
      | none => False)
    | none => False)
  | _ => False
theorem dm_index : DMt z "list.index" mIndex := by
  refine ⟨_, mt_index, fun m M H x vs dx ds Q Qd r d1 d2 h t => ?_⟩
  unfold mIndex at h
  split at h
  · obtain ⟨w, rfl, rw'⟩ := d2.one_
    split at h
    · rename_i ds e
      obtain ⟨a, us, rfl, s, q⟩ := lst_of r d1 e
      obtain ⟨h1, h2, h⟩ := h
      split at h
      · rename_i j ej
        rw [List.findIdx?_eq_some_iff_getElem] at ej
        obtain ⟨hj, e1, e2⟩ := ej
        obtain ⟨v, ev, rv⟩ := q.get (List.getElem?_eq_getElem hj)
        have fl := List.all_eq_true.mp h2
        refine ⟨a, us, w, j, v, rfl, rfl, s, flat_of rw' h1, q.flat h2, ev, ?_, fun k z' hk ez => ?_, t _ _ _ _ _ h .refl r RD.int'⟩
        · rw [eqD_of rv rw' (fl _ (List.getElem_mem hj)) h1]; exact e1
        · have hk' : k < ds.length := by omega
          obtain ⟨v', ev', rv'⟩ := q.get (List.getElem?_eq_getElem hk')
          rw [ez] at ev'
          cases ev'
          rw [eqD_of rv' rw' (fl _ (List.getElem_mem hk')) h1]
          have := e2 k hk
          simpa using this
      · exact h.elim
    · exact h.elim
  · exact h.elim
def mCount : DRM := fun x xs M Q => match xs with
  | [.int k] => (match intsOf x M with
    | some ns => Q (.int (ns.count k : Nat)) M
    | none => False)
  | _ => False
theorem dm_count : DMt z "list.count" mCount := by
  refine ⟨_, mt_lcount, fun m M H x vs dx ds Q Qd r d1 d2 h t => ?_⟩
  unfold mCount at h
  split at h
  · obtain ⟨w, rfl, rw'⟩ := d2.one_
    split at h
    · rename_i ns e
      obtain ⟨a, rfl, s⟩ := ints_of r d1 e
      exact ⟨a, ns, _, rfl, by rw [rw'.int_], s, t _ _ _ _ _ h .refl r RD.int'⟩
    · exact h.elim
  · exact h.elim
/-! text.join -/
def mJoin : DRM := fun x xs M Q => match x, xs with
  | .str a, [y] => (match strsOf y M with
    | some ys => (ys.map (·.length)).sum + ys.length * a.length ≤ 16777216 ∧ Q (.str (Txt.join a ys)) M
    | none => False)
  | _, _ => False
theorem dm_join : DMt z "str.join" mJoin := by
  refine ⟨_, mt_join, fun m M H x vs dx ds Q Qd r d1 d2 h t => ?_⟩
  unfold mJoin at h
  split at h
  · obtain ⟨w, rfl, rw'⟩ := d2.one_
    split at h
    · rename_i ns e
      obtain ⟨a, rfl, s⟩ := strs_of r rw' e
      exact ⟨_, a, ns, d1.str_, rfl, s, h.1, t _ _ _ _ _ h.2 .refl r RD.str'⟩
    · exact h.elim
  · exact h.elim
/-! d.get(k), d.get(k, x) -/
def rGet : V → List V → Hp → VK → Prop := fun x vs H Q => ∃ a y d o, x = .ref a ∧ (vs = [y] ∧ d = .non ∨ vs = [y, d]) ∧ DGet H a y o ∧ Q (o.getD d) H
theorem mt_get {X : Cx} (hu : X.A.units + 1 < cLine) : MtR X "dict.get" rGet := by
  intro pins s σ H x vs v us Q I rx rv h
  obtain ⟨a, y, d, o, rfl, e, g, q⟩ := h
  cases rx
  rcases e with ⟨rfl, rfl⟩ | rfl
  · obtain ⟨u, rfl, ru⟩ := rv.one
    exact d_get1 hu I g ru fun w' s3 I3 rw' => ⟨_, H, I3, rw', q⟩
  · obtain ⟨u, w, rfl, ru, rw0⟩ := rv.two
    exact d_get2 hu I g ru rw0 fun w' s3 I3 rw' => ⟨_, H, I3, rw', q⟩
def mGet : DRM := fun x xs M Q => match x with
  | .loc n => (match M[n]? with
    | some (.dic kvs) => (match xs with
      | [k] => (match keyD k with
        | some j => Q ((valD kvs j).getD .non) M
        | none => False)
      | [k, d] => (match keyD k with
        | some j => Q ((valD kvs j).getD d) M
        | none => False)
      | _ => False)
    | _ => False)
  | _ => False
theorem RKV.getD {κ : Type} [DecidableEq κ] {k : κ} {kvs : List (κ × D)} {ws : List (κ × V)} {d : D} {v : V} (q : RKV K m H kvs ws) (rd : RD K m H d v) : RD K m H ((valD kvs k).getD d) ((valV ws k).getD v) := by
  rcases q.val (k := k) with ⟨e1, e2⟩ | ⟨d', v', e1, e2, e3⟩
  · rw [e1, e2]; exact rd
  · rw [e1, e2]; exact e3
theorem dm_get {k : Nat} (hr : Room k z.X.A) : DMt z "dict.get" mGet := by
  refine ⟨_, mt_get (hu_of hr), fun m M H x vs dx ds Q Qd r d1 d2 h t => ?_⟩
  unfold mGet at h
  split at h
  · split at h
    · rename_i kvs e
      obtain ⟨a, ws, rfl, _, s, q⟩ := r.dic d1 e
      split at h
      · obtain ⟨w, rfl, rw'⟩ := d2.one_
        split at h
        · rename_i j ej
          exact ⟨a, w, .non, valV ws j, rfl, .inl ⟨rfl, rfl⟩, by rw [key_ofD ej rw']; exact DGet.k s, t _ _ _ _ _ h .refl r (q.getD RD.non')⟩
        · exact h.elim
      · obtain ⟨w, w2, rfl, rw', rw2⟩ := d2.two_
        split at h
        · rename_i j ej
          exact ⟨a, w, w2, valV ws j, rfl, .inr rfl, by rw [key_ofD ej rw']; exact DGet.k s, t _ _ _ _ _ h .refl r (q.getD rw2)⟩
        · exact h.elim
      · exact h.elim
    · exact h.elim
  · exact h.elim
end

/-! ### what a def promises -/
abbrev DSp := List D → Mem → QD → (Addr → Mem → Prop) → Prop
def ThenX (K : PySem.W.Frag) (m : List Addr) (H : Hp) (Ed : Addr → Mem → Prop) (E : XK) : Prop := ∀ C M' m' H', Ed C M' → Grow m H m' H' → RM K m' H' M' → E (.ref C) none H'
def liftSp (K : PySem.W.Frag) (sp : DSp) : Sp := fun vs H Q E => ∃ m ds M Qd Ed, RM K m H M ∧ RDs K m H ds vs ∧ sp ds M Qd Ed ∧ Then K m H Qd Q ∧ ThenX K m H Ed E
structure DFn (P : Program) (w : World) (K : PySem.W.Frag) (mg : Str → Option Value) (base : Heap) (CX : CXT) (k : Nat) (x : Str) (ps : List Str) (sp : DSp) : Prop where
  ex : ∃ f fd, FnOk P w K mg base CX k f fd ps (liftSp K sp) ∧ mg x = some (.ref f) ∧ PySem.W.keepIn K (.ref f) = true ∧ Binds K fd ps []
abbrev E0D : Addr → Mem → Prop := fun _ _ => False
def dCall (sp : DSp) (Ed : Addr → Mem → Prop) (ta : DTA) : DTE := fun r M Q => ta r M fun ds M1 => sp ds M1 Q Ed
section
variable {z : Zx}
theorem le_call {K : PySem.W.Frag} {sp : DSp} {wa : TA} {ta : DTA} (hK : K = z.X.K) (ha : LA z wa ta) : LE z (tCall (liftSp K sp) [] E0 wa) (dCall sp E0D ta) := fun m r M σ H Q Qd s q t =>
  ha m r M σ H _ _ s q fun ds M1 m1 vs H1 q1 g1 r1 d1 => by
    subst hK
    rw [List.append_nil]
    exact ⟨m1, ds, M1, Qd, E0D, r1, d1, q1, t.grow g1, fun _ _ _ _ h => h.elim⟩
theorem de_call {CX : CXT} {k : Nat} {x : Str} {ps : List Str} {sp : DSp} {e : Expr} {es : List Expr} {ta : DTA} {p pos : Pos} (F : DFn z.X.prog z.X.w z.X.K z.X.mg z.X.base CX k x ps sp) (hr : Room k z.X.A) (hx : Passes CX z.X E0) (ha : DA z (e :: es) ta) (hg : Gl z.X x := by rfl) (hdb : (x == ("__debug__" : Str)) = false := by decide)
    (he : starEach (e :: es) z.X.env = (false, eval e z.X.env) :: starEach es z.X.env := by rfl) (hpl : (backTo pos (starEach es z.X.env)).any (·.1) = false := by rfl) : DE z (.Call (.Name x p) (e :: es) [] pos) (dCall sp E0D ta) := by
  obtain ⟨f, fd, Fo, hm, hk, hb⟩ := F.ex
  obtain ⟨wa, pa, la⟩ := ha
  exact ⟨_, pe_call Fo hr hg hm hk hb .nil hx pa hdb he hpl, le_call rfl la⟩
theorem de_call0 {CX : CXT} {k : Nat} {x : Str} {ps : List Str} {sp : DSp} {p pos : Pos} (F : DFn z.X.prog z.X.w z.X.K z.X.mg z.X.base CX k x ps sp) (hr : Room k z.X.A) (hx : Passes CX z.X E0) (hg : Gl z.X x := by rfl) (hdb : (x == ("__debug__" : Str)) = false := by decide) : DE z (.Call (.Name x p) [] [] pos) (dCall sp E0D dNil) := by
  obtain ⟨f, fd, Fo, hm, hk, hb⟩ := F.ex
  exact ⟨_, pe_call0 Fo hr hg hm hk hb .nil hx hdb, le_call rfl fun m r M σ H Q Qd s q t => t _ _ _ _ _ q .refl s.rm RDs.nil'⟩
end

/-! ### forgetting what a def has laid -/
mutual
def okD (n : Nat) : D → Bool
  | .loc i => decide (i < n)
  | .tup ds => okDs n ds
  | .rol ds => okDs n ds
  | _ => true
def okDs (n : Nat) : List D → Bool
  | [] => true
  | d :: ds => okD n d && okDs n ds
end
def okO (n : Nat) : MO → Bool
  | .lst ds => okDs n ds
  | .dic kvs => okDs n (kvs.map (·.2))
  | .ins _ fs => okDs n (fs.map (·.2))
  | .fdic kvs => okDs n (kvs.map (·.2))
def okM (n : Nat) (M : Mem) : Bool := M.all (okO n)
section
variable {K : PySem.W.Frag} {m m' : List Addr} {H H' : Hp} {M M' : Mem}
mutual
theorem RD.back (h : m <+: m') : ∀ {d : D} {v : V}, RD K m' H d v → okD m.length d = true → RD K m H d v
  | .non, _, q, _ => by unfold RD at q ⊢; exact q
  | .bl _, _, q, _ => by unfold RD at q ⊢; exact q
  | .int _, _, q, _ => by unfold RD at q ⊢; exact q
  | .str _, _, q, _ => by unfold RD at q ⊢; exact q
  | .ty _, _, q, _ => by unfold RD at q ⊢; exact q
  | .cls _, _, q, _ => by unfold RD at q ⊢; exact q
  | .loc i, _, q, k => by
    unfold RD at q ⊢
    obtain ⟨a, e, r⟩ := q
    have hi : i < m.length := by unfold okD at k; exact of_decide_eq_true k
    obtain ⟨t, rfl⟩ := h
    rw [List.getElem?_append_left hi] at r
    exact ⟨a, e, r⟩
  | .tup ds, _, q, k => by
    unfold okD at k
    unfold RD at q ⊢
    obtain ⟨a, vs, e, s, r⟩ := q
    exact ⟨a, vs, e, s, RDs.back h r k⟩
  | .rol ds, _, q, k => by
    unfold okD at k
    unfold RD at q ⊢
    obtain ⟨a, vs, e, s, r⟩ := q
    exact ⟨a, vs, e, s, RDs.back h r k⟩
theorem RDs.back (h : m <+: m') : ∀ {ds : List D} {vs : List V}, RDs K m' H ds vs → okDs m.length ds = true → RDs K m H ds vs
  | [], _, q, _ => by unfold RDs at q ⊢; exact q
  | d :: ds, _, q, k => by
    unfold okDs at k
    rw [Bool.and_eq_true] at k
    unfold RDs at q ⊢
    obtain ⟨v, ws, e, r, s⟩ := q
    exact ⟨v, ws, e, RD.back h r k.1, RDs.back h s k.2⟩
end
mutual
theorem RD.okD_ : ∀ {d : D} {v : V}, RD K m H d v → okD m.length d = true
  | .non, _, q => by unfold okD; rfl
  | .bl _, _, q => by unfold okD; rfl
  | .int _, _, q => by unfold okD; rfl
  | .str _, _, q => by unfold okD; rfl
  | .ty _, _, q => by unfold okD; rfl
  | .cls _, _, q => by unfold okD; rfl
  | .loc i, _, q => by
    unfold RD at q
    obtain ⟨a, e, r⟩ := q
    unfold okD
    exact decide_eq_true (List.getElem?_eq_some_iff.mp r).1
  | .tup ds, _, q => by
    unfold RD at q
    obtain ⟨a, vs, e, s, r⟩ := q
    unfold okD
    exact RDs.okD_ r
  | .rol ds, _, q => by
    unfold RD at q
    obtain ⟨a, vs, e, s, r⟩ := q
    unfold okD
    exact RDs.okD_ r
theorem RDs.okD_ : ∀ {ds : List D} {vs : List V}, RDs K m H ds vs → okDs m.length ds = true
  | [], _, q => by unfold okDs; rfl
  | d :: ds, _, q => by
    unfold RDs at q
    obtain ⟨v, ws, e, r, s⟩ := q
    unfold okDs
    rw [RD.okD_ r, RDs.okD_ s]
    rfl
end
theorem RKV.back {κ : Type} (h : m <+: m') : ∀ {kvs : List (κ × D)} {ws : List (κ × V)}, RKV K m' H kvs ws → okDs m.length (kvs.map (·.2)) = true → RKV K m H kvs ws
  | [], _, q, _ => q
  | p :: kvs, _, q, k => by
    obtain ⟨v, s, e, r1, r2⟩ := q
    have k' : (okD m.length p.2 && okDs m.length (kvs.map (·.2))) = true := by
      have := k
      rw [List.map_cons] at this
      unfold okDs at this
      exact this
    rw [Bool.and_eq_true] at k'
    exact ⟨v, s, e, r1.back h k'.1, RKV.back h r2 k'.2⟩
theorem RKV.okD_ {κ : Type} : ∀ {kvs : List (κ × D)} {ws : List (κ × V)}, RKV K m H kvs ws → okDs m.length (kvs.map (·.2)) = true
  | [], _, q => by unfold okDs; rfl
  | p :: kvs, _, q => by
    obtain ⟨v, s, e, r1, r2⟩ := q
    rw [List.map_cons]
    unfold okDs
    rw [r1.okD_, RKV.okD_ r2]
    rfl
theorem RO.back {o : MO} {a : Addr} (h : m <+: m') (q : RO K m' H o a) (k : okO m.length o = true) : RO K m H o a := by
  cases o with
  | lst ds => obtain ⟨vs, e, r⟩ := q; exact ⟨vs, e, r.back h k⟩
  | dic kvs => obtain ⟨vs, e, r⟩ := q; exact ⟨vs, e, r.back h k⟩
  | ins C fs => obtain ⟨dx, vs, e, r⟩ := q; exact ⟨dx, vs, e, r.back h k⟩
  | fdic kvs => obtain ⟨ob, vs, e, r⟩ := q; exact ⟨ob, vs, e, r.back h k⟩
theorem RM.okM_ (r : RM K m H M) : okM M.length M = true := by
  unfold okM
  rw [List.all_eq_true]
  intro o ho
  obtain ⟨n, e⟩ := List.getElem?_of_mem ho
  obtain ⟨a, ea, q⟩ := r.ob n o e
  rw [← r.len]
  cases o with
  | lst ds => obtain ⟨vs, e, q⟩ := q; exact q.okD_
  | dic kvs => obtain ⟨vs, e, q⟩ := q; exact q.okD_
  | ins C fs => obtain ⟨dx, vs, e, q⟩ := q; exact q.okD_
  | fdic kvs => obtain ⟨ob, vs, e, q⟩ := q; exact q.okD_
/-- the first n cells alone -/
theorem RM.cut (r : RM K m' H M) (h : m <+: m') (k : okM m.length (M.take m.length) = true) : RM K m H (M.take m.length) where
  len := by
    have h1 := h.length_le
    rw [List.length_take, ← r.len]
    omega
  nd := by
    obtain ⟨t, rfl⟩ := h
    exact (List.nodup_append.mp r.nd).1
  ob := fun n o e => by
    have hn : n < m.length := by
      have := (List.getElem?_eq_some_iff.mp e).1
      rw [List.length_take] at this
      omega
    have e' : M[n]? = some o := by
      rw [List.getElem?_take_of_lt hn] at e
      exact e
    obtain ⟨a, ea, q⟩ := r.ob n o e'
    refine ⟨a, ?_, q.back h ?_⟩
    · obtain ⟨t, rfl⟩ := h
      rw [List.getElem?_append_left hn] at ea
      exact ea
    · exact List.all_eq_true.mp k o (List.mem_of_getElem? e)
end
/-- the ends of a def's body: as they stand; without what is new; with one new list -/
def Done (n : Nat) (Qd : QD) (d : D) (M : Mem) : Prop :=
  Qd d M ∨ (okD n d = true ∧ okM n (M.take n) = true ∧ Qd d (M.take n)) ∨
  (∃ l ds, d = .loc l ∧ n ≤ l ∧ M[l]? = some (.lst ds) ∧ okDs n ds = true ∧ okM n (M.take n) = true ∧ Qd (.loc n) (M.take n ++ [.lst ds])) ∨
  (∃ l kvs, d = .loc l ∧ n ≤ l ∧ M[l]? = some (.dic kvs) ∧ okDs n (kvs.map (·.2)) = true ∧ okM n (M.take n) = true ∧ Qd (.loc n) (M.take n ++ [.dic kvs]))
section
variable {K : PySem.W.Frag} {m m' : List Addr} {H H' : Hp} {M M' : Mem}
theorem Done.ok {n : Nat} {Qd : QD} {Q : VK} {d : D} {v : V} (hn : n = m.length) (h : Done n Qd d M') (t : Then K m H Qd Q) (g : Grow m H m' H') (r : RM K m' H' M') (rd : RD K m' H' d v) : Q v H' := by
  subst hn
  rcases h with h | ⟨h1, h2, h3⟩ | ⟨l, ds, rfl, hl, e, h1, h2, h3⟩ | ⟨l, ds, rfl, hl, e, h1, h2, h3⟩
  · exact t _ _ _ _ _ h g r rd
  · have gm : Grow m H m H' := ⟨List.prefix_refl _, fun _ a b => absurd a b, g.keep, g.frz, g.tup⟩
    exact t _ _ _ _ _ h3 gm (r.cut g.pre h2) (rd.back g.pre h1)
  · obtain ⟨a, vs, rfl, ea, eh, q⟩ := r.lst rd e
    have hap : a ∉ m := fun hm => by
      obtain ⟨j, ej⟩ := List.getElem?_of_mem hm
      have hj := (List.getElem?_eq_some_iff.mp ej).1
      have := nd_ix r.nd (get_pre g.pre ej) ea
      omega
    have rc := (r.cut g.pre h2).adopt (p := a) (o := .lst ds) hap ⟨vs, eh, (q.back g.pre h1).mono (List.prefix_append _ _) ⟨fun _ _ z => z, fun _ _ z => z⟩⟩
    have gm : Grow m H (m ++ [a]) H' := ⟨List.prefix_append _ _, fun b hb hn => by
      rcases List.mem_append.mp hb with z | z
      · exact absurd z hn
      · have e : b = a := by simpa using z
        rw [e]
        exact g.fresh a (List.mem_of_getElem? ea) hap, g.keep, g.frz, g.tup⟩
    refine t _ _ _ _ _ h3 gm rc ?_
    unfold RD
    exact ⟨a, rfl, by simp⟩
  · obtain ⟨a, vs, rfl, ea, eh, q⟩ := r.dic rd e
    have hap : a ∉ m := fun hm => by
      obtain ⟨j, ej⟩ := List.getElem?_of_mem hm
      have hj := (List.getElem?_eq_some_iff.mp ej).1
      have := nd_ix r.nd (get_pre g.pre ej) ea
      omega
    have rc := (r.cut g.pre h2).adopt (p := a) (o := .dic ds) hap ⟨vs, eh, (q.back g.pre h1).mono (List.prefix_append _ _) ⟨fun _ _ z => z, fun _ _ z => z⟩⟩
    have gm : Grow m H (m ++ [a]) H' := ⟨List.prefix_append _ _, fun b hb hn => by
      rcases List.mem_append.mp hb with z | z
      · exact absurd z hn
      · have e : b = a := by simpa using z
        rw [e]
        exact g.fresh a (List.mem_of_getElem? ea) hap, g.keep, g.frz, g.tup⟩
    refine t _ _ _ _ _ h3 gm rc ?_
    unfold RD
    exact ⟨a, rfl, by simp⟩
end

def startD (N : List Str) (ds : List D) : Rho := ds.map some ++ List.replicate (N.length - ds.length) none
section
variable {P : Program} {w : World} {K : PySem.W.Frag} {mg : Str → Option Value} {base : Heap}
theorem start_ok {m : List Addr} {H : Hp} {N : List Str} : ∀ {ds : List D} {vs : List V}, RDs K m H ds vs → (startD N ds).length = (L2.start N vs).length ∧ ∀ (i : Nat) (d : D), (startD N ds)[i]? = some (some d) → ∃ v, (L2.start N vs)[i]? = some (some v) ∧ RD K m H d v := fun {ds vs} h => by
  have hl := h.length
  refine ⟨by simp [startD, L2.start, hl], fun i d e => ?_⟩
  unfold startD at e
  unfold L2.start
  by_cases hi : i < ds.length
  · rw [List.getElem?_append_left (by simpa using hi), List.getElem?_map] at e
    rw [List.getElem?_append_left (by simpa [hl] using hi), List.getElem?_map]
    cases q : ds[i]? with
    | none => rw [q] at e; cases e
    | some d' =>
      rw [q] at e
      cases e
      obtain ⟨v, ev, rv⟩ := h.get q
      exact ⟨v, by rw [ev]; rfl, rv⟩
  · rw [List.getElem?_append_right (by simpa using Nat.le_of_not_lt hi)] at e
    have := List.mem_of_getElem? e
    have := List.eq_of_mem_replicate this
    cases this
/-- a def that raises nothing -/
theorem DFn.of {x qual : Str} {st : Stmt} {f : Addr} {fd : FuncData} {N ps : List Str} {k : Nat} {sp : DSp} (F : Fun K x qual st f fd) (hm : mg x = some (.ref f)) (hb : Binds K fd ps []) (S : FnScope N ps (defScope st)) (len : ∀ ds M Q E, sp ds M Q E → ds.length = ps.length)
    (body : ∃ t, (∀ (cdv : Value) (A : Around) (outer : List Env) (s : Shared) (H : Hp) (E : XK) (m0 : List Addr), Room k (A.deeper (PyProof.Rows.envOfC qual (defScope st) s.heap.objs.size f cdv)) →
        DSs ⟨(cxOf CX0 P w K mg base N qual (defScope st) f cdv A outer s H E).nox, m0, H⟩ (defBody st) t) ∧
      ∀ ds M Qd Ed, sp ds M Qd Ed → okM M.length M = true → t { nx := fun _ M' => Done M.length Qd .non M', rt := Done M.length Qd } (startD N ds) M) : DFn P w K mg base CX0 (k + 1) x ps sp := by
  obtain ⟨t, der, red⟩ := body
  refine ⟨f, fd, F.ok S ?_ ?_, hm, F.kp, hb⟩
  · rintro vs H Q E ⟨m, ds, M, Qd, Ed, rm, rd, h, _⟩
    rw [rd.length]
    exact len _ _ _ _ h
  · rintro cdv A outer s H vs Q E hr ⟨m, ds, M, Qd, Ed, rm, rd, h, t1, t2⟩
    obtain ⟨ts, p, l⟩ := der cdv A outer s H E m hr
    refine ⟨ts, p, ?_⟩
    obtain ⟨e1, e2⟩ := start_ok (N := N) rd
    refine l m (startD N ds) M (L2.start N vs) H _ _ ⟨.refl, rm, e1, e2⟩ (red ds M Qd Ed h rm.okM_) ⟨?_, ?_, ?_, ?_⟩
    · intro r' M' m' σ' H' q g s'
      exact Done.ok rm.len.symm q t1 g s'.rm RD.non'
    · intro d M' m' v H' q g r' rd'
      exact Done.ok rm.len.symm q t1 g r' rd'
    · intro r' M' m' σ' H' q g s'
      exact q.elim
    · intro r' M' m' σ' H' q g s'
      exact q.elim
end
end DL
namespace DL
open PySem L2 RZ RT

section
variable {P : Program} {w : World} {K : PySem.W.Frag} {mg : Str → Option Value} {base : Heap}
/-- a def as the head tells it, without defaults -/
abbrev FnP (K : PySem.W.Frag) (x qual : Str) (st : Stmt) (f : Addr) (fd : FuncData) : Prop := FunD K x qual (defArgs st) (defBody st) (defScope st) [] [] f fd
theorem fnok_of {x qual : Str} {st : Stmt} {f : Addr} {fd : FuncData} {N ps : List Str} {k : Nat} {sp : DSp} (F : FnP K x qual st f fd) (S : FnScope N ps (defScope st)) (len : ∀ ds M Q E, sp ds M Q E → ds.length = ps.length)
    (body : ∃ t, (∀ (cdv : Value) (A : Around) (outer : List Env) (s : Shared) (H : Hp) (E : XK) (m0 : List Addr), Room k (A.deeper (PyProof.Rows.envOfC qual (defScope st) s.heap.objs.size f cdv)) →
        DSs ⟨(cxOf CX0 P w K mg base N qual (defScope st) f cdv A outer s H E).nox, m0, H⟩ (defBody st) t) ∧
      ∀ ds M Qd Ed, sp ds M Qd Ed → okM M.length M = true → t { nx := fun _ M' => Done M.length Qd .non M', rt := Done M.length Qd } (startD N ds) M) : FnOk P w K mg base CX0 (k + 1) f fd ps (liftSp K sp) := by
  obtain ⟨t, der, red⟩ := body
  refine F.ok S ?_ ?_
  · rintro vs H Q E ⟨m, ds, M, Qd, Ed, rm, rd, h, _⟩
    rw [rd.length]
    exact len _ _ _ _ h
  · rintro cdv A outer s H vs Q E hr ⟨m, ds, M, Qd, Ed, rm, rd, h, t1, t2⟩
    obtain ⟨ts, p, l⟩ := der cdv A outer s H E m hr
    refine ⟨ts, p.nox, ?_⟩
    obtain ⟨e1, e2⟩ := start_ok (N := N) rd
    refine l m (startD N ds) M (L2.start N vs) H _ _ ⟨.refl, rm, e1, e2⟩ (red ds M Qd Ed h rm.okM_) ⟨?_, ?_, ?_, ?_⟩
    · intro r' M' m' σ' H' q g s'
      exact Done.ok rm.len.symm q t1 g s'.rm RD.non'
    · intro d M' m' v H' q g r' rd'
      exact Done.ok rm.len.symm q t1 g r' rd'
    · intro r' M' m' σ' H' q g s'
      exact q.elim
    · intro r' M' m' σ' H' q g s'
      exact q.elim
theorem DFn.ofD {x qual : Str} {st : Stmt} {f : Addr} {fd : FuncData} {N ps : List Str} {k : Nat} {sp : DSp} (F : FnP K x qual st f fd) (hm : mg x = some (.ref f)) (hb : Binds K fd ps []) (S : FnScope N ps (defScope st)) (len : ∀ ds M Q E, sp ds M Q E → ds.length = ps.length)
    (body : ∃ t, (∀ (cdv : Value) (A : Around) (outer : List Env) (s : Shared) (H : Hp) (E : XK) (m0 : List Addr), Room k (A.deeper (PyProof.Rows.envOfC qual (defScope st) s.heap.objs.size f cdv)) →
        DSs ⟨(cxOf CX0 P w K mg base N qual (defScope st) f cdv A outer s H E).nox, m0, H⟩ (defBody st) t) ∧
      ∀ ds M Qd Ed, sp ds M Qd Ed → okM M.length M = true → t { nx := fun _ M' => Done M.length Qd .non M', rt := Done M.length Qd } (startD N ds) M) : DFn P w K mg base CX0 (k + 1) x ps sp :=
  ⟨f, fd, fnok_of F S len body, hm, F.kp, hb⟩
/-- nothing is promised: a start for inductions -/
theorem DFn.nothing {x qual : Str} {st : Stmt} {f : Addr} {fd : FuncData} {ps : List Str} {k : Nat} {CX : CXT} (F : FnP K x qual st f fd) (hm : mg x = some (.ref f)) (hb : Binds K fd ps []) : DFn P w K mg base CX k x ps (fun _ _ _ _ => False) :=
  ⟨f, fd, ⟨fun vs H Q E ⟨_, _, _, _, _, _, _, h, _⟩ => h.elim, fun A outer s H args us vs Q E _ _ _ _ ⟨_, _, _, _, _, _, _, h, _⟩ => h.elim⟩, hm, F.kp, hb⟩
theorem DFn.imp {x : Str} {ps : List Str} {k : Nat} {CX : CXT} {sp sp' : DSp} (F : DFn P w K mg base CX k x ps sp) (h : ∀ ds M Q E, sp' ds M Q E → sp ds M Q E) : DFn P w K mg base CX k x ps sp' := by
  obtain ⟨f, fd, Fo, r⟩ := F.ex
  refine ⟨f, fd, Fo.imp ?_, r⟩
  rintro vs H Q E ⟨m, ds, M, Qd, Ed, rm, rd, q, t⟩
  exact ⟨m, ds, M, Qd, Ed, rm, rd, h _ _ _ _ q, t⟩
theorem DFn.mono {x : Str} {ps : List Str} {j k : Nat} {CX : CXT} {sp : DSp} (F : DFn P w K mg base CX j x ps sp) (h : j ≤ k) : DFn P w K mg base CX k x ps sp := by
  obtain ⟨f, fd, Fo, r⟩ := F.ex
  exact ⟨f, fd, Fo.mono h, r⟩
end

/-! ### the law -/
def spLaw : DSp := fun ds M Q _ => ∃ ns : List Int, ds = [.rol (ns.map D.int)] ∧ ns.length ≤ 63 ∧ M = [] ∧ ∀ M', Q (.bl true) M'
theorem RDs_ints {K : PySem.W.Frag} {m : List Addr} {H : Hp} : ∀ ns : List Int, RDs K m H (ns.map D.int) (ns.map V.int)
  | [] => RDs.nil'
  | n :: ns => RDs.cons' RD.int' (RDs_ints ns)
theorem law_sp {K : PySem.W.Frag} {H : Hp} {a : Addr} {ns : List Int} (hl : ns.length ≤ 63) (hO : Only H) (hS : SqL K H a (ns.map V.int)) : liftSp K spLaw [.ref a] H (fun v _ => v = .bl true) fun _ _ _ => False := by
  have hR : SqR K H a (ns.map V.int) := by
    rcases hS with (h | ⟨o, h⟩) | h
    · rcases hO a with z | ⟨o, xs, z⟩
      · rw [h] at z; cases z
      · rw [h] at z; cases z
    · exact .inl ⟨o, h⟩
    · exact .inr h
  refine ⟨[], [.rol (ns.map D.int)], [], fun d _ => d = .bl true, E0D, ⟨rfl, List.nodup_nil, fun n o e => by simp at e⟩, RDs.cons' ?_ RDs.nil', ⟨ns, rfl, hl, rfl, fun _ => rfl⟩, ?_, fun _ _ _ _ h => h.elim⟩
  · unfold RD
    exact ⟨a, _, rfl, hR, RDs_ints ns⟩
  · rintro d M' m' v H' rfl _ _ rd
    exact rd.bl_

/-! ### more that a loop walks -/
section
variable {z : Zx} {K : PySem.W.Frag} {m : List Addr} {H : Hp} {M : Mem}
/-- zip(x, y) of two tuples, two lists, or written ones -/
def dIZip (ta : DTA) : DTI := fun r M R => ta r M fun xs M1 => match xs with
  | [.tup ds, .tup es] => R ⟨(ds.zip es).map fun p => .tup [p.1, p.2], fun _ => True⟩ M1
  | [.loc i, .loc j] => (match M1[i]?, M1[j]? with
    | some (.lst ds), some (.lst es) => R ⟨(ds.zip es).map fun p => .tup [p.1, p.2], fun M => M[i]? = some (.lst ds) ∧ M[j]? = some (.lst es)⟩ M1
    | _, _ => False)
  | _ => False
theorem zip_get {ds es : List D} {i : Nat} {d e : D} (h1 : ds[i]? = some d) (h2 : es[i]? = some e) : ((ds.zip es).map fun p => D.tup [p.1, p.2])[i]? = some (.tup [d, e]) := by
  rw [List.getElem?_map, (List.getElem?_zip_eq_some (z := (d, e))).mpr ⟨h1, h2⟩]
  rfl
theorem zip_lt {ds es : List D} {i : Nat} (h : i < ((ds.zip es).map fun p => D.tup [p.1, p.2]).length) : i < ds.length ∧ i < es.length := by
  rw [List.length_map, List.length_zip] at h
  omega
theorem itok_zipL {i j : Nat} {a b : Addr} {ds es : List D} (ea : m[i]? = some a) (eb : m[j]? = some b) : ItOk K m H ⟨(ds.zip es).map fun p => .tup [p.1, p.2], fun M => M[i]? = some (.lst ds) ∧ M[j]? = some (.lst es)⟩ (Itz K a b) where
  go := fun k m' M' H' hi g r hk => by
    obtain ⟨h1, h2⟩ := zip_lt hi
    obtain ⟨vs, e, q⟩ := r.at hk.1 (get_pre g.pre ea)
    obtain ⟨ws, e', q'⟩ := r.at hk.2 (get_pre g.pre eb)
    obtain ⟨v, ev, _⟩ := q.get (List.getElem?_eq_getElem h1)
    obtain ⟨w, ew, _⟩ := q'.get (List.getElem?_eq_getElem h2)
    exact ⟨vs, ws, v, w, SqL.of e, SqL.of e', ev, ew⟩
  yld := fun k m' M' H' x H'' hi g r hk y => by
    obtain ⟨h1, h2⟩ := zip_lt hi
    obtain ⟨T, x1, y1, rfl, hT, rfl, y2, y3⟩ := y
    obtain ⟨vs, e, q⟩ := r.at hk.1 (get_pre g.pre ea)
    obtain ⟨ws, e', q'⟩ := r.at hk.2 (get_pre g.pre eb)
    obtain ⟨v, ev, rv⟩ := q.get (List.getElem?_eq_getElem h1)
    obtain ⟨w, ew, rw'⟩ := q'.get (List.getElem?_eq_getElem h2)
    have e2 := y2 vs (SqL.of e)
    have e3 := y3 ws (SqL.of e')
    rw [ev] at e2
    rw [ew] at e3
    cases e2
    cases e3
    refine ⟨_, zip_get (List.getElem?_eq_getElem h1) (List.getElem?_eq_getElem h2), .inr ⟨T, _, hT, rfl⟩, RD.tup' (SqT.of upd_same) ?_⟩
    exact (RDs.cons' rv (RDs.cons' rw' RDs.nil')).grow (Grow.new hT)
  stop := fun m' M' H' g r hk => by
    obtain ⟨vs, e, q⟩ := r.at hk.1 (get_pre g.pre ea)
    obtain ⟨ws, e', q'⟩ := r.at hk.2 (get_pre g.pre eb)
    refine ⟨vs, ws, SqL.of e, SqL.of e', ?_⟩
    rw [q.length, q'.length]
    show _ ≤ ((ds.zip es).map fun p => D.tup [p.1, p.2]).length ∨ _ ≤ ((ds.zip es).map fun p => D.tup [p.1, p.2]).length
    rw [List.length_map, List.length_zip]
    omega
theorem itok_zipT {a b : Addr} {ds es : List D} {vs ws : List V} (s : SqT K H a vs) (q : RDs K m H ds vs) (s' : SqT K H b ws) (q' : RDs K m H es ws) : ItOk K m H ⟨(ds.zip es).map fun p => .tup [p.1, p.2], fun _ => True⟩ (ItzT K a b) where
  go := fun k m' M' H' hi g r hk => by
    obtain ⟨h1, h2⟩ := zip_lt hi
    obtain ⟨v, ev, _⟩ := q.get (List.getElem?_eq_getElem h1)
    obtain ⟨w, ew, _⟩ := q'.get (List.getElem?_eq_getElem h2)
    exact ⟨vs, ws, v, w, g.tups.tu _ _ s, g.tups.tu _ _ s', ev, ew⟩
  yld := fun k m' M' H' x H'' hi g r hk y => by
    obtain ⟨h1, h2⟩ := zip_lt hi
    obtain ⟨T, x1, y1, rfl, hT, rfl, y2, y3⟩ := y
    obtain ⟨v, ev, rv⟩ := q.get (List.getElem?_eq_getElem h1)
    obtain ⟨w, ew, rw'⟩ := q'.get (List.getElem?_eq_getElem h2)
    have e2 := y2 vs (g.tups.tu _ _ s)
    have e3 := y3 ws (g.tups.tu _ _ s')
    rw [ev] at e2
    rw [ew] at e3
    cases e2
    cases e3
    refine ⟨_, zip_get (List.getElem?_eq_getElem h1) (List.getElem?_eq_getElem h2), .inr ⟨T, _, hT, rfl⟩, RD.tup' (SqT.of upd_same) ?_⟩
    exact ((RDs.cons' rv (RDs.cons' rw' RDs.nil')).grow g).grow (Grow.new hT)
  stop := fun m' M' H' g r hk => by
    refine ⟨vs, ws, g.tups.tu _ _ s, g.tups.tu _ _ s', ?_⟩
    rw [q.length, q'.length]
    show _ ≤ ((ds.zip es).map fun p => D.tup [p.1, p.2]).length ∨ _ ≤ ((ds.zip es).map fun p => D.tup [p.1, p.2]).length
    rw [List.length_map, List.length_zip]
    omega
theorem di_zip {e e2 : Expr} {ta : DTA} {p pos tpos : Pos} {elts : List Expr} {kk : Nat} (hm : z.X.mg "zip" = none) (h : DA z [e, e2] ta) (hg : Gl z.X "zip" := by rfl)
    (hs : starEach [e, e2] z.X.env = (false, eval e z.X.env) :: starEach [e2] z.X.env := by rfl) (hpl : (backTo pos (starEach [e2] z.X.env)).any (·.1) = false := by rfl) :
    DI z (.Tuple elts kk tpos) (.Call (.Name "zip" p) [e, e2] [] pos) (dIZip ta) := by
  obtain ⟨wa, pa, la⟩ := h
  refine ⟨_, pi_zipA hg hm pa hs hpl, fun m r M σ H R Rd s q t => la m r M σ H _ _ s q fun xs M1 m1 vs H1 q1 g1 r1 d1 => ?_⟩
  split at q1
  · obtain ⟨v, w, rfl, d, d'⟩ := d1.two_
    obtain ⟨a, us, rfl, s1, q⟩ := d.tup_
    obtain ⟨b, ws, rfl, s2, q'⟩ := d'.tup_
    exact ⟨a, b, us, ws, rfl, .inr ⟨s1, s2, t _ _ _ _ _ q1 g1 r1 (itok_zipT s1 q s2 q')⟩⟩
  · obtain ⟨v, w, rfl, d, d'⟩ := d1.two_
    split at q1
    · rename_i e1 e2
      obtain ⟨a, us, rfl, ea, s1, q⟩ := r1.lst d e1
      obtain ⟨b, ws, rfl, eb, s2, q'⟩ := r1.lst d' e2
      exact ⟨a, b, us, ws, rfl, .inl ⟨SqL.of s1, SqL.of s2, t _ _ _ _ _ q1 g1 r1 (itok_zipL ea eb)⟩⟩
    · exact q1.elim
  · exact q1.elim
end
end DL
namespace DL
open PySem L2

section
variable {K : PySem.W.Frag} {m m' : List Addr} {H H' : Hp} {M : Mem}
theorem RM.sideD {p : Addr} {xs ys : List (Key × V)} (r : RM K m H M) (hp : p ∉ m) (h : H p = some (.dK xs)) : RM K m (upd H p (.dK ys)) M where
  len := r.len
  nd := r.nd
  ob := fun n u e => by
    obtain ⟨a, ea, q⟩ := r.ob n u e
    have hne : a ≠ p := fun z => hp (z ▸ List.mem_of_getElem? ea)
    refine ⟨a, ea, q.mono (List.prefix_refl _) (TupStay.of (fun b us eb => ?_) fun b o us eb => ?_) fun u e => by rw [upd_ne hne]; exact e⟩
    · rw [upd_ne (fun z => by rw [z, h] at eb; cases eb)]; exact eb
    · rw [upd_ne (fun z => by rw [z, h] at eb; cases eb)]; exact eb
theorem Grow.sideD {p : Addr} {ho : HO} (g : Grow m H m' H') (hp : H p = none) : Grow m H m' (upd H' p ho) where
  pre := g.pre
  fresh := g.fresh
  keep := fun b o e hb => by rw [upd_ne (ne_of_none e hp)]; exact g.keep b o e hb
  frz := fun b o u e => by rw [upd_ne (ne_of_none e hp)]; exact g.frz b o u e
  tup := fun b u e => by rw [upd_ne (ne_of_none e hp)]; exact g.tup b u e
end
/-! ### {k: v for x in it if ..} -/
def dcGo (ok : Mem → Prop) (j : Nat) (r0 : Rho) (tt : DTT) (tk tv : DTE) : List D → Mem → List (Key × D) → (List (Key × D) → Mem → Prop) → Prop
  | [], M, acc, k => ok M ∧ k acc M
  | x :: rest, M, acc, k => ok M ∧ tt (r0.set j (some x)) M fun b M2 => match b with
    | true => tk (r0.set j (some x)) M2 fun y M3 => tv (r0.set j (some x)) M3 fun w M4 => (match keyD y with
      | some q => acc.length < sizeLine ∧ dcGo ok j r0 tt tk tv rest M4 (putD acc q w) k
      | none => False)
    | false => dcGo ok j r0 tt tk tv rest M2 acc k
def dDc (ti : DTI) (j : Nat) (vs : List Nat) (tt : DTT) (tk tv : DTE) : DTE := fun r M Q => ti r M fun it M1 => dcGo it.ok j (wipeD r vs) tt tk tv it.items M1 [] fun acc M2 => Q (.loc M2.length) (M2 ++ [.dic acc])
section
variable {z : Zx}
theorem le_dc {wi : TI} {ti : DTI} {j : Nat} {vs : List Nat} {tt : DTT} {tk tv : DTE} (hj : j ∈ vs) (hi : LI z wi ti) : LE z (tDc wi (gName j) (canT z.X.K z.m0 z.H0 tt) (canE z.X.K z.m0 z.H0 tk) (canE z.X.K z.m0 z.H0 tv) vs) (dDc ti j vs tt tk tv) := fun m r M σ H Q Qd s q t => by
  refine hi m r M σ H _ _ s q fun it M1 m1 H1 J q1 g1 r1 ok => ?_
  intro p hp
  have l1 := t.grow g1
  have np : p ∉ m1 := r1.not_mem hp
  have gp : Grow m1 H1 m1 (upd H1 p (.dK [])) := Grow.new hp
  refine ⟨fun i k H' => k = it.items.length - i ∧ i ≤ it.items.length ∧ ∃ m' M' acc us, Grow m1 H1 m' H' ∧ RM z.X.K m' H' M' ∧ p ∉ m' ∧ H' p = some (.dK us) ∧ RKV z.X.K m' H' acc us ∧
    dcGo it.ok j (wipeD r vs) tt tk tv (it.items.drop i) M' acc (fun acc M2 => Qd (.loc M2.length) (M2 ++ [.dic acc])), ⟨it.items.length, by simp, Nat.zero_le _, m1, M1, [], [], gp, r1.new hp, np, upd_same, rfl, by rw [List.drop_zero]; exact q1⟩, ?_⟩
  rintro i k H2 ⟨rfl, hi, m2, M2, acc, us, g2, rm2, np2, hp2, da, w2⟩
  by_cases hlt : i < it.items.length
  · rw [List.drop_eq_getElem_cons hlt] at w2
    obtain ⟨hok, w2⟩ := w2
    refine .inr ⟨ok.go i m2 M2 H2 hlt g2 rm2 hok, fun H' => ∃ m' M' acc us, Grow m1 H1 m' H' ∧ RM z.X.K m' H' M' ∧ p ∉ m' ∧ H' p = some (.dK us) ∧ RKV z.X.K m' H' acc us ∧
      dcGo it.ok j (wipeD r vs) tt tk tv (it.items.drop (i + 1)) M' acc (fun acc M2 => Qd (.loc M2.length) (M2 ++ [.dic acc])), fun H' q' => ⟨it.items.length - (i + 1), by omega, rfl, hlt, q'⟩, fun x H3 y => ?_⟩
    obtain ⟨d, ed, hH, rd⟩ := ok.yld i m2 M2 H2 x H3 hlt g2 rm2 hok y
    have ed2 : d = it.items[i] := by
      rw [List.getElem?_eq_getElem hlt] at ed
      exact (Option.some.inj ed).symm
    subst ed2
    have g3 : Grow m2 H2 m2 H3 ∧ RM z.X.K m2 H3 M2 ∧ H3 p = some (.dK us) := by
      rcases hH with rfl | ⟨p', o, hp', rfl⟩
      · exact ⟨.refl, rm2, hp2⟩
      · exact ⟨Grow.new hp', rm2.new hp', by rw [upd_ne (ne_of_none hp2 hp')]; exact hp2⟩
    obtain ⟨g3, rm3, hp3⟩ := g3
    have sl3 : ∀ (i' : Nat) (d : D), ((wipeD r vs).set j (some it.items[i]))[i']? = some (some d) → ∃ v, ((wipe σ vs).set j (some x))[i']? = some (some v) ∧ RD z.X.K m2 H3 d v := fun i' d e => by
      by_cases hij : i' = j
      · subst hij
        have hl : i' < (wipeD r vs).length := by
          have := (List.getElem?_eq_some_iff.mp e).1
          simpa using this
        rw [List.getElem?_set_self hl] at e
        cases e
        refine ⟨x, ?_, rd⟩
        rw [List.getElem?_set_self (by rw [wipe_length, ← s.len, ← wipeD_length r vs]; exact hl)]
      · rw [List.getElem?_set_ne (fun q => hij q.symm)] at e ⊢
        obtain ⟨e1, e2⟩ := wipeD_some e
        obtain ⟨v, ev, rv⟩ := s.sl i' d e1
        refine ⟨v, ?_, (rv.grow (g1.trans g2)).grow g3⟩
        rw [wipe_at, if_neg e2]
        exact ev
    have len3 : ((wipeD r vs).set j (some it.items[i])).length = ((wipe σ vs).set j (some x)).length := by
      rw [List.length_set, List.length_set, wipe_length, wipeD_length, s.len]
    have gz3 : Grow z.m0 z.H0 m2 H3 := ((s.g.trans g1).trans g2).trans g3
    have stay : ∀ {m4 : List Addr} {H4 : Hp} {m5 : List Addr} {H5 : Hp}, Grow m4 H4 m5 H5 → p ∉ m4 → H4 p = some (.dK us) → p ∉ m5 ∧ H5 p = some (.dK us) := fun {m4 H4 m5 H5} g np h => ⟨(fun hm => by
      have := g.fresh p hm np
      rw [h] at this
      cases this), g.keep _ _ h np⟩
    refine ⟨wipe_set hj, m2, _, M2, _, gz3, rm3, len3, sl3, w2, fun b M4 m4 H4 q4 g4 rm4 => ?_⟩
    obtain ⟨np4, hp4⟩ := stay g4 np2 hp3
    have da4 : RKV z.X.K m4 H4 acc us := (da.mono g3.pre g3.tups).mono g4.pre g4.tups
    have g14 : Grow m1 H1 m4 H4 := (g2.trans g3).trans g4
    cases b with
    | false => exact iteF ⟨m4, M4, acc, us, g14, rm4, np4, hp4, da4, q4⟩
    | true =>
      refine iteT ⟨m4, _, M4, _, gz3.trans g4, rm4, len3, fun i' d e => ?_, q4, fun y M5 m5 v5 H5 q5 g5 rm5 d5 => ?_⟩
      · obtain ⟨v, ev, rv⟩ := sl3 i' d e
        exact ⟨v, ev, rv.grow g4⟩
      · obtain ⟨np5, hp5⟩ := stay g5 np4 hp4
        refine ⟨m5, _, M5, _, (gz3.trans g4).trans g5, rm5, len3, fun i' d e => ?_, q5, fun y6 M6 m6 v6 H6 q6 g6 rm6 d6 => ?_⟩
        · obtain ⟨v, ev, rv⟩ := sl3 i' d e
          exact ⟨v, ev, (rv.grow g4).grow g5⟩
        · obtain ⟨np6, hp6⟩ := stay g6 np5 hp5
          have da6 : RKV z.X.K m6 H6 acc us := (da4.mono g5.pre g5.tups).mono g6.pre g6.tups
          split at q6
          · rename_i kk ek
            have st : TupStay z.X.K H6 (upd H6 p (.dK (putK us kk v6))) := TupStay.of (fun b xs eb => by rw [upd_ne (fun w => by rw [w, hp6] at eb; cases eb)]; exact eb) fun b o xs eb => by rw [upd_ne (fun w => by rw [w, hp6] at eb; cases eb)]; exact eb
            refine ⟨us, kk, key_ofD ek (d5.grow g6), hp6, by rw [da6.length]; exact q6.1, m6, M6, putD acc kk y6, putK us kk v6, ((g14.trans g5).trans g6).sideD hp, rm6.sideD np6 hp6, np6, upd_same, ?_, q6.2⟩
            exact (da6.put d6).mono (List.prefix_refl _) st
          · exact q6.elim
  · have e : i = it.items.length := by omega
    subst e
    rw [List.drop_length] at w2
    refine .inl ⟨ok.stop m2 M2 H2 g2 rm2 w2.1, ?_⟩
    have gz : Grow m1 H1 (m2 ++ [p]) H2 :=
      ⟨List.IsPrefix.trans g2.pre (List.prefix_append _ _), fun b hb hn => by
        rcases List.mem_append.mp hb with h | h
        · exact g2.fresh b h hn
        · have e : b = p := by simpa using h
          rw [e]; exact hp, g2.keep, g2.frz, g2.tup⟩
    refine l1 _ _ _ _ _ w2.2 gz (rm2.adopt np2 (o := .dic acc) ⟨us, hp2, da.mono (List.prefix_append _ _) ⟨fun _ _ h => h, fun _ _ h => h⟩⟩) ?_
    unfold RD
    exact ⟨p, rfl, by rw [← rm2.len]; simp⟩
theorem de_dc (j : Nat) {kx vx iter : Expr} {ifs : List Expr} {scope : Scope} {own : List (Str × Nat)} {x : Str} {pos px : Pos} {ti : DTI} {tt : DTT} {tk tv : DTE} (hc : z.X.calm = true) (hN : z.X.N.Nodup) (hi : DI z (.Name x px) iter ti) (ok : blkC z.X.N z.X.env.scope scope own = true)
    (hj : j ∈ own.map (·.2))
    (hg : ∀ (s : Shared) (H : Hp) (C : Addr) (cl : List (Str × Addr)) (fp : List Addr), PG (z.X.blk s H scope (compEnvC scope cl C z.X.env) fp) (.Name x px) (gName j))
    (ht : ∀ (s : Shared) (H : Hp) (C : Addr) (cl : List (Str × Addr)) (fp : List Addr), DTs ⟨z.X.blk s H scope (compEnvC scope cl C z.X.env) fp, z.m0, z.H0⟩ ifs tt)
    (hk : ∀ (s : Shared) (H : Hp) (C : Addr) (cl : List (Str × Addr)) (fp : List Addr), DE ⟨z.X.blk s H scope (compEnvC scope cl C z.X.env) fp, z.m0, z.H0⟩ kx tk)
    (he : ∀ (s : Shared) (H : Hp) (C : Addr) (cl : List (Str × Addr)) (fp : List Addr), DE ⟨z.X.blk s H scope (compEnvC scope cl C z.X.env) fp, z.m0, z.H0⟩ vx tv) (hs : ∀ x, foldedSetIterable iter z.X.env x = pure x := by intro _; rfl) :
    DE z (.DictComp kx vx [⟨.Name x px, iter, ifs, 0⟩] scope pos) (dDc ti j (own.map (·.2)) tt tk tv) := by
  obtain ⟨wi, pi, li⟩ := hi
  exact ⟨_, pe_dc (own := own) (tt := canT z.X.K z.m0 z.H0 tt) (tk := canE z.X.K z.m0 z.H0 tk) (tv := canE z.X.K z.m0 z.H0 tv) hc hN pi (blkOk_by ok) hg ht (fun s H C cl fp => (hk s H C cl fp).can) (fun s H C cl fp => (he s H C cl fp).can) hs, le_dc hj li⟩
end
theorem b_len : bootBuiltins "len" = some (.builtin "len") := by decide +kernel
theorem b_abs : bootBuiltins "abs" = some (.builtin "abs") := by decide +kernel
theorem b_max : bootBuiltins "max" = some (.builtin "max") := by decide +kernel
theorem b_min : bootBuiltins "min" = some (.builtin "min") := by decide +kernel
theorem b_sum : bootBuiltins "sum" = some (.builtin "sum") := by decide +kernel
theorem b_all : bootBuiltins "all" = some (.builtin "all") := by decide +kernel
theorem b_any : bootBuiltins "any" = some (.builtin "any") := by decide +kernel
theorem b_isinstance : bootBuiltins "isinstance" = some (.builtin "isinstance") := by decide +kernel
theorem b_sorted : bootBuiltins "sorted" = some (.builtin "sorted") := by decide +kernel
theorem b_int : bootBuiltins "int" = some (.type "int") := by decide +kernel
theorem b_bool : bootBuiltins "bool" = some (.type "bool") := by decide +kernel
theorem b_str : bootBuiltins "str" = some (.type "str") := by decide +kernel
theorem b_list : bootBuiltins "list" = some (.type "list") := by decide +kernel
theorem b_tuple : bootBuiltins "tuple" = some (.type "tuple") := by decide +kernel
theorem b_dict : bootBuiltins "dict" = some (.type "dict") := by decide +kernel
end DL
namespace DL
open PySem L2

theorem lcGo_ind {ok : Mem → Prop} {j : Nat} {r0 : Rho} {tt : DTT} {te : DTE} {k : List D → Mem → Prop} (P : List D → Mem → List D → Prop)
    (step : ∀ x rest M acc, P (x :: rest) M acc → (∀ M' acc', P rest M' acc' → lcGo ok j r0 tt te rest M' acc' k) → ok M ∧ tt (r0.set j (some x)) M fun b M2 => match b with
      | true => te (r0.set j (some x)) M2 fun y M3 => acc.length < sizeLine ∧ lcGo ok j r0 tt te rest M3 (acc ++ [y]) k
      | false => lcGo ok j r0 tt te rest M2 acc k)
    (fin : ∀ M acc, P [] M acc → ok M ∧ k acc M) : ∀ items M acc, P items M acc → lcGo ok j r0 tt te items M acc k
  | [], M, acc, h => fin M acc h
  | x :: rest, M, acc, h => step x rest M acc h fun M' acc' h' => lcGo_ind P step fin rest M' acc' h'
theorem dcGo_ind {ok : Mem → Prop} {j : Nat} {r0 : Rho} {tt : DTT} {tk tv : DTE} {k : List (Key × D) → Mem → Prop} (P : List D → Mem → List (Key × D) → Prop)
    (step : ∀ x rest M acc, P (x :: rest) M acc → (∀ M' acc', P rest M' acc' → dcGo ok j r0 tt tk tv rest M' acc' k) → ok M ∧ tt (r0.set j (some x)) M fun b M2 => match b with
      | true => tk (r0.set j (some x)) M2 fun y M3 => tv (r0.set j (some x)) M3 fun w M4 => (match keyD y with
        | some q => acc.length < sizeLine ∧ dcGo ok j r0 tt tk tv rest M4 (putD acc q w) k
        | none => False)
      | false => dcGo ok j r0 tt tk tv rest M2 acc k)
    (fin : ∀ M acc, P [] M acc → ok M ∧ k acc M) : ∀ items M acc, P items M acc → dcGo ok j r0 tt tk tv items M acc k
  | [], M, acc, h => fin M acc h
  | x :: rest, M, acc, h => step x rest M acc h fun M' acc' h' => dcGo_ind P step fin rest M' acc' h'
theorem forGo_ind {ok : Mem → Prop} {g : DTG} {tb : DTS} {Dd : DEnds} (P : List D → Rho → Mem → Prop)
    (step : ∀ x rest r M, P (x :: rest) r M → (∀ r' M', P rest r' M' → forGo ok g tb Dd rest r' M') → ok M ∧ g x r M fun r2 M2 => tb { nx := forGo ok g tb Dd rest, rt := Dd.rt, bk := Dd.nx, ct := forGo ok g tb Dd rest } r2 M2)
    (fin : ∀ r M, P [] r M → ok M ∧ Dd.nx r M) : ∀ items r M, P items r M → forGo ok g tb Dd items r M
  | [], r, M, h => fin r M h
  | x :: rest, r, M, h => step x rest r M h fun r' M' h' => forGo_ind P step fin rest r' M' h'
theorem while_ind {c : DTT} {tb : DTS} {Dd : DEnds} {r : Rho} {M : Mem} (W : Nat → Rho → Mem → Prop) (k0 : Nat) (h0 : W k0 r M)
    (step : ∀ k r M, W k r M → c r M fun b M1 => match b with
      | true => tb { Dd with nx := fun r' M' => ∃ j, j < k ∧ W j r' M', ct := fun r' M' => ∃ j, j < k ∧ W j r' M', bk := Dd.nx } r M1
      | false => Dd.nx r M1) : dWhile c tb Dd r M := ⟨W, ⟨k0, h0⟩, step⟩

/-! ### small facts -/
theorem atI_lt {α : Type} {xs : List α} {i : Int} (h0 : 0 ≤ i) (h1 : i < xs.length) : ∃ x, xs[i.toNat]? = some x ∧ atI xs i = some x := by
  have hi : i.toNat < xs.length := by omega
  refine ⟨xs[i.toNat], List.getElem?_eq_getElem hi, ?_⟩
  have h := atI_nat (xs := xs) (j := i.toNat) (List.getElem?_eq_getElem hi)
  have e : ((i.toNat : Nat) : Int) = i := by omega
  rw [e] at h
  exact h
theorem atI_ints {ns : List Int} {i : Int} (h0 : 0 ≤ i) (h1 : i < ns.length) : ∃ v, atI (ns.map D.int) i = some (.int v) := by
  obtain ⟨x, e1, e2⟩ := atI_lt (xs := ns.map D.int) h0 (by simpa using h1)
  rw [List.getElem?_map] at e1
  cases q : ns[i.toNat]? with
  | none => rw [q] at e1; cases e1
  | some v => rw [q] at e1; cases e1; exact ⟨v, e2⟩
theorem szl : sizeLine = 16777216 := sizeLine_eq
theorem get_push {M : Mem} {o : MO} : (M ++ [o])[M.length]? = some o := by simp
theorem get_push_lt {M : Mem} {o : MO} {i : Nat} {u : MO} (h : M[i]? = some u) : (M ++ [o])[i]? = some u := by
  rw [List.getElem?_append_left (List.getElem?_eq_some_iff.mp h).1]; exact h
theorem get_set_ne {M : Mem} {o : MO} {i j : Nat} (h : j ≠ i) : (M.set j o)[i]? = M[i]? := List.getElem?_set_ne h
theorem get_set_eq {M : Mem} {o u : MO} {i : Nat} (h : M[i]? = some u) : (M.set i o)[i]? = some o := List.getElem?_set_self (List.getElem?_eq_some_iff.mp h).1
theorem set_get {M : Mem} {o : MO} {l : Nat} : (M.set l o)[l]? = (M[l]?).map fun _ => o := by
  cases h : M[l]? with
  | none => rw [List.getElem?_eq_none (by rw [List.length_set]; exact List.getElem?_eq_none_iff.mp h)]; rfl
  | some u => rw [get_set_eq h]; rfl
theorem atI_0 {α : Type} {x0 : α} {xs : List α} : atI (x0 :: xs) 0 = some x0 := atI_nat (j := 0) rfl
theorem atI_1 {α : Type} {x0 x1 : α} {xs : List α} : atI (x0 :: x1 :: xs) 1 = some x1 := atI_nat (j := 1) rfl
theorem atI_2 {α : Type} {x0 x1 x2 : α} {xs : List α} : atI (x0 :: x1 :: x2 :: xs) 2 = some x2 := atI_nat (j := 2) rfl
theorem atI_3 {α : Type} {x0 x1 x2 x3 : α} {xs : List α} : atI (x0 :: x1 :: x2 :: x3 :: xs) 3 = some x3 := atI_nat (j := 3) rfl
theorem atI_4 {α : Type} {x0 x1 x2 x3 x4 : α} {xs : List α} : atI (x0 :: x1 :: x2 :: x3 :: x4 :: xs) 4 = some x4 := atI_nat (j := 4) rfl
theorem atI_5 {α : Type} {x0 x1 x2 x3 x4 x5 : α} {xs : List α} : atI (x0 :: x1 :: x2 :: x3 :: x4 :: x5 :: xs) 5 = some x5 := atI_nat (j := 5) rfl
theorem atI_6 {α : Type} {x0 x1 x2 x3 x4 x5 x6 : α} {xs : List α} : atI (x0 :: x1 :: x2 :: x3 :: x4 :: x5 :: x6 :: xs) 6 = some x6 := atI_nat (j := 6) rfl
theorem getK {A B : Mem} {n k : Nat} (h : A.length = n) : (A ++ B)[n + k]? = B[k]? := by
  rw [List.getElem?_append_right (by omega)]
  congr 1
  omega
theorem getK0 {A B : Mem} {n : Nat} (h : A.length = n) : (A ++ B)[n]? = B[0]? := by
  rw [List.getElem?_append_right (by omega)]
  congr 1
  omega
theorem getL {A B : Mem} {n : Nat} (h : n < A.length) : (A ++ B)[n]? = A[n]? := List.getElem?_append_left h
theorem setK {A B : Mem} {n k : Nat} {o : MO} (h : A.length = n) : (A ++ B).set (n + k) o = A ++ B.set k o := by
  rw [List.set_append_right _ _ (by omega)]
  congr 2
  omega
theorem setK0 {A B : Mem} {n : Nat} {o : MO} (h : A.length = n) : (A ++ B).set n o = A ++ B.set 0 o := by
  rw [List.set_append_right _ _ (by omega)]
  congr 2
  omega
theorem setL {A B : Mem} {n : Nat} {o : MO} (h : n < A.length) : (A ++ B).set n o = A.set n o ++ B := List.set_append_left _ _ h
theorem set_getN {M : Mem} {o : MO} {l j : Nat} (h : l ≠ j) : (M.set l o)[j]? = M[j]? := List.getElem?_set_ne h
theorem takeK {A B : Mem} {n : Nat} (h : A.length = n) : (A ++ B).take n = A := List.take_left' h
theorem rngD_zero (lo : Int) : rngD lo 0 = [] := rfl
theorem rngD_succ (lo : Int) (n : Nat) : rngD lo (n + 1) = .int lo :: rngD (lo + 1) n := by
  unfold rngD
  rw [List.range_succ_eq_map, List.map_cons, List.map_map]
  congr 1
  · simp
  · apply List.map_congr_left
    intro i _
    simp only [Function.comp]
    congr 1
    omega
theorem rngD_length (lo : Int) (n : Nat) : (rngD lo n).length = n := by simp [rngD]
theorem ixN_nat {n i : Nat} (h : i < n) : ixN n (i : Int) = some i := by
  unfold ixN
  rw [if_pos (by omega), if_pos (by omega)]
  simp
theorem take_push {M G : Mem} : (M ++ G).take M.length = M := List.take_left
theorem okD_int (n : Nat) (i : Int) : okD n (.int i) = true := rfl
theorem Done.same {n : Nat} {Qd : QD} {d : D} {M : Mem} (h : Qd d M) : Done n Qd d M := .inl h
/-- what is new is forgotten -/
theorem Done.old {n : Nat} {Qd : QD} {d : D} {M1 M' : Mem} (hM : okM n M1 = true) (e : M'.take n = M1) (hd : okD n d = true) (h : Qd d M1) : Done n Qd d M' :=
  .inr (.inl ⟨hd, by rw [e]; exact hM, by rw [e]; exact h⟩)
/-- all but a new list -/
theorem Done.list {n : Nat} {Qd : QD} {l : Nat} {ds : List D} {M1 M' : Mem} (hM : okM n M1 = true) (e : M'.take n = M1) (hl : n ≤ l) (hg : M'[l]? = some (.lst ds)) (hd : okDs n ds = true) (h : Qd (.loc n) (M1 ++ [.lst ds])) : Done n Qd (.loc l) M' :=
  .inr (.inr (.inl ⟨l, ds, rfl, hl, hg, hd, by rw [e]; exact hM, by rw [e]; exact h⟩))
/-- all but a new dict -/
theorem Done.dict {n : Nat} {Qd : QD} {l : Nat} {kvs : List (Key × D)} {M1 M' : Mem} (hM : okM n M1 = true) (e : M'.take n = M1) (hl : n ≤ l) (hg : M'[l]? = some (.dic kvs)) (hd : okDs n (kvs.map (·.2)) = true) (h : Qd (.loc n) (M1 ++ [.dic kvs])) : Done n Qd (.loc l) M' :=
  .inr (.inr (.inr ⟨l, kvs, rfl, hl, hg, hd, by rw [e]; exact hM, by rw [e]; exact h⟩))
theorem okDs_iff {n : Nat} {ds : List D} : okDs n ds = true ↔ ∀ d ∈ ds, okD n d = true := by
  induction ds with
  | nil => simp [okDs]
  | cons d ds ih => simp [okDs, ih]
theorem okM_iff {n : Nat} {M : Mem} : okM n M = true ↔ ∀ o ∈ M, okO n o = true := by unfold okM; exact List.all_eq_true
theorem okM_push {n : Nat} {M : Mem} {o : MO} (h : okM n M = true) (ho : okO n o = true) : okM n (M ++ [o]) = true := by
  rw [okM_iff] at h ⊢
  intro u hu
  rcases List.mem_append.mp hu with q | q
  · exact h u q
  · have : u = o := by simpa using q
    rw [this]; exact ho
theorem okM_set {n : Nat} {M : Mem} {o : MO} {i : Nat} (h : okM n M = true) (ho : okO n o = true) : okM n (M.set i o) = true := by
  rw [okM_iff] at h ⊢
  intro u hu
  rcases List.mem_or_eq_of_mem_set hu with q | q
  · exact h u q
  · rw [q]; exact ho
end DL
namespace DL
open PySem L2
theorem cut_from {xs : List D} {t : Nat} : cutD xs (some (t : Int)) none = xs.drop t := by
  have e0 : HT.sIx xs.length 0 (some (t : Int)) = min t xs.length := by
    show (if (t : Int) < 0 then ((t : Int) + xs.length).toNat else min ((t : Int)).toNat xs.length) = _
    rw [if_neg (by omega)]; omega
  have e1 : HT.sIx xs.length xs.length none = xs.length := rfl
  unfold cutD
  rw [e0, e1]
  by_cases h : t ≤ xs.length
  · rw [show min t xs.length = t by omega, List.take_of_length_le (by simp)]
  · rw [show min t xs.length = xs.length by omega, List.drop_of_length_le (Nat.le_refl _), List.drop_of_length_le (by omega)]
    simp
theorem cut_to {xs : List D} {t : Nat} : cutD xs none (some (t : Int)) = xs.take t := by
  have e0 : HT.sIx xs.length xs.length (some (t : Int)) = min t xs.length := by
    show (if (t : Int) < 0 then ((t : Int) + xs.length).toNat else min ((t : Int)).toNat xs.length) = _
    rw [if_neg (by omega)]; omega
  have e1 : HT.sIx xs.length 0 none = 0 := rfl
  unfold cutD
  rw [e0, e1, List.drop_zero, Nat.sub_zero]
  by_cases h : t ≤ xs.length
  · rw [show min t xs.length = t by omega]
  · rw [show min t xs.length = xs.length by omega, List.take_of_length_le (by omega), List.take_of_length_le (by omega)]
theorem cut_1 {x : D} {xs : List D} : cutD (x :: xs) (some 1) none = xs := (cut_from (t := 1)).trans rfl
theorem cut_turn {ar : List Int} {t : Nat} (h : t ≤ ar.length) : ∃ br : List Int, cutD (ar.map D.int) (some (t : Int)) none ++ cutD (ar.map D.int) none (some (t : Int)) = br.map D.int ∧ (∀ a, a ∈ br ↔ a ∈ ar) ∧ br.length = ar.length := by
  refine ⟨ar.drop t ++ ar.take t, ?_, fun a => ?_, ?_⟩
  · rw [cut_from, cut_to, List.map_append, List.map_drop, List.map_take]
  · conv => rhs; rw [← List.take_append_drop t ar]
    rw [List.mem_append, List.mem_append]
    exact or_comm
  · rw [List.length_append, List.length_drop, List.length_take]; omega
theorem sIx_nat {n d t : Nat} : HT.sIx n d (some (t : Int)) = min t n := by
  show (if (t : Int) < 0 then ((t : Int) + n).toNat else min ((t : Int)).toNat n) = _
  rw [if_neg (by omega)]; omega
end DL
namespace DL
open PySem L2
/-! ### == over plain data: numbers, texts, rows of these -/
mutual
def pl : D → Bool
  | .non => true
  | .int _ => true
  | .str x => PyData.strOk x
  | .tup ds => pls ds
  | .rol ds => pls ds
  | _ => false
def pls : List D → Bool
  | [] => true
  | d :: ds => pl d && pls ds
end
mutual
def toP : D → PyData
  | .int i => .int i
  | .str x => .str x
  | .tup ds => .tuple (toPs ds)
  | .rol ds => .list (toPs ds)
  | _ => .none
def toPs : List D → List PyData
  | [] => []
  | d :: ds => toP d :: toPs ds
end
mutual
def dep : D → Nat
  | .tup ds => deps ds + 1
  | .rol ds => deps ds + 1
  | _ => 0
def deps : List D → Nat
  | [] => 0
  | d :: ds => max (dep d) (deps ds)
end
mutual
theorem pyG_pl {f : Nat → Option PyData} : ∀ {d : D}, pl d = true → pyG f d = some (toP d)
  | .non, _ => by unfold pyG toP; rfl
  | .int _, _ => by unfold pyG toP; rfl
  | .str _, _ => by unfold pyG toP; rfl
  | .tup ds, h => by unfold pl at h; unfold pyG toP; rw [pyGs_pl h]; rfl
  | .rol ds, h => by unfold pl at h; unfold pyG toP; rw [pyGs_pl h]; rfl
  | .bl _, h => by unfold pl at h; cases h
  | .loc _, h => by unfold pl at h; cases h
  | .ty _, h => by unfold pl at h; cases h
  | .cls _, h => by unfold pl at h; cases h
theorem pyGs_pl {f : Nat → Option PyData} : ∀ {ds : List D}, pls ds = true → pyGs f ds = some (toPs ds)
  | [], _ => by unfold pyGs toPs; rfl
  | d :: ds, h => by
    unfold pls at h
    rw [Bool.and_eq_true] at h
    unfold pyGs toPs
    rw [pyG_pl h.1, pyGs_pl h.2]
end
mutual
theorem lay_pl : ∀ {d : D}, pl d = true → (toP d).canLay0 = true
  | .non, _ => by unfold toP; rw [PyData.canLay0]
  | .int _, _ => by unfold toP; rw [PyData.canLay0]
  | .str x, h => by unfold pl at h; unfold toP; rw [PyData.canLay0]; exact h
  | .tup ds, h => by unfold pl at h; unfold toP; rw [PyData.canLay0]; exact lays_pl h
  | .rol ds, h => by unfold pl at h; unfold toP; rw [PyData.canLay0]; exact lays_pl h
  | .bl _, h => by unfold pl at h; cases h
  | .loc _, h => by unfold pl at h; cases h
  | .ty _, h => by unfold pl at h; cases h
  | .cls _, h => by unfold pl at h; cases h
theorem lays_pl : ∀ {ds : List D}, pls ds = true → PyData.canLayAll0 (toPs ds) = true
  | [], _ => by unfold toPs; rw [PyData.canLayAll0]
  | d :: ds, h => by
    unfold pls at h
    rw [Bool.and_eq_true] at h
    unfold toPs
    rw [PyData.canLayAll0, lay_pl h.1, lays_pl h.2]
    rfl
end
mutual
theorem depth_pl : ∀ {d : D}, (toP d).depth = dep d
  | .non => by unfold toP dep; rw [PyData.depth]
  | .int _ => by unfold toP dep; rw [PyData.depth]
  | .str _ => by unfold toP dep; rw [PyData.depth]
  | .tup ds => by unfold toP dep; rw [PyData.depth, depths_pl]
  | .rol ds => by unfold toP dep; rw [PyData.depth, depths_pl]
  | .bl _ => by unfold toP dep; rw [PyData.depth]
  | .loc _ => by unfold toP dep; rw [PyData.depth]
  | .ty _ => by unfold toP dep; rw [PyData.depth]
  | .cls _ => by unfold toP dep; rw [PyData.depth]
theorem depths_pl : ∀ {ds : List D}, PyData.depthAll (toPs ds) = deps ds
  | [] => by unfold toPs deps; rw [PyData.depthAll]
  | d :: ds => by unfold toPs deps; rw [PyData.depthAll, depth_pl, depths_pl]
end
mutual
theorem eqv_pl : ∀ {d e : D}, pl d = true → pl e = true → ((toP d).eqv (toP e) = true ↔ d = e)
  | .non, e, _, h => by cases e <;> simp_all [pl, toP, PyData.eqv]
  | .int _, e, _, h => by cases e <;> simp_all [pl, toP, PyData.eqv]
  | .str _, e, _, h => by cases e <;> simp_all [pl, toP, PyData.eqv]
  | .tup ds, e, h1, h2 => by
    cases e with
    | tup es =>
      unfold pl at h1 h2
      unfold toP
      rw [PyData.eqv, eqvs_pl h1 h2]
      exact ⟨fun h => by rw [h], fun h => by cases h; rfl⟩
    | _ => simp_all [pl, toP, PyData.eqv]
  | .rol ds, e, h1, h2 => by
    cases e with
    | rol es =>
      unfold pl at h1 h2
      unfold toP
      rw [PyData.eqv, eqvs_pl h1 h2]
      exact ⟨fun h => by rw [h], fun h => by cases h; rfl⟩
    | _ => simp_all [pl, toP, PyData.eqv]
  | .bl _, _, h, _ => by unfold pl at h; cases h
  | .loc _, _, h, _ => by unfold pl at h; cases h
  | .ty _, _, h, _ => by unfold pl at h; cases h
  | .cls _, _, h, _ => by unfold pl at h; cases h
theorem eqvs_pl : ∀ {ds es : List D}, pls ds = true → pls es = true → (PyData.eqvAll (toPs ds) (toPs es) = true ↔ ds = es)
  | [], [], _, _ => by unfold toPs; rw [PyData.eqvAll]; simp
  | [], e :: es, _, _ => by unfold toPs; rw [PyData.eqvAll]; simp
  | d :: ds, [], _, _ => by unfold toPs; rw [PyData.eqvAll]; simp
  | d :: ds, e :: es, h1, h2 => by
    unfold pls at h1 h2
    rw [Bool.and_eq_true] at h1 h2
    unfold toPs
    rw [PyData.eqvAll, Bool.and_eq_true, eqv_pl h1.1 h2.1, eqvs_pl h1.2 h2.2, List.cons.injEq]
end
theorem py_pl {M : Mem} {d : D} (h : pl d = true) : py M d = some (toP d) := pyG_pl h
theorem py_lst {M : Mem} {a : Nat} {ds : List D} (e : M[a]? = some (.lst ds)) (h : pls ds = true) : py M (.loc a) = some (.list (toPs ds)) := by
  unfold py pyG pyN pyL
  rw [e]
  simp only [pyGs_pl h]
  rfl
theorem eqQ_pl {M : Mem} {x y : D} {k : Bool → Prop} (h1 : pl x = true) (h2 : pl y = true) (hd : dep x ≤ 199 ∨ dep y ≤ 199) (q : ∀ b : Bool, (b = true ↔ x = y) → k b) : eqQ M x y k := by
  unfold eqQ
  rw [py_pl h1, py_pl h2]
  exact ⟨lay_pl h1, lay_pl h2, by rw [depth_pl, depth_pl]; omega, q _ (eqv_pl h1 h2)⟩
theorem eqQ_ll {M : Mem} {a b : Nat} {ds es : List D} {k : Bool → Prop} (e1 : M[a]? = some (.lst ds)) (e2 : M[b]? = some (.lst es)) (h1 : pls ds = true) (h2 : pls es = true) (hd : deps ds ≤ 198 ∨ deps es ≤ 198) (q : ∀ b : Bool, (b = true ↔ ds = es) → k b) : eqQ M (.loc a) (.loc b) k := by
  unfold eqQ
  rw [py_lst e1 h1, py_lst e2 h2]
  refine ⟨by rw [PyData.canLay0]; exact lays_pl h1, by rw [PyData.canLay0]; exact lays_pl h2, by rw [PyData.depth, PyData.depth, depths_pl, depths_pl]; omega, q _ ?_⟩
  rw [PyData.eqv, eqvs_pl h1 h2]
theorem qEq_pl {M : Mem} {x y : D} {Q : QD} (h1 : pl x = true) (h2 : pl y = true) (hd : dep x ≤ 199 ∨ dep y ≤ 199) (q : ∀ b : Bool, (b = true ↔ x = y) → Q (.bl b) M) : qEq x y M Q := eqQ_pl h1 h2 hd q
theorem qNe_pl {M : Mem} {x y : D} {Q : QD} (h1 : pl x = true) (h2 : pl y = true) (hd : dep x ≤ 199 ∨ dep y ≤ 199) (q : ∀ b : Bool, (b = true ↔ x ≠ y) → Q (.bl b) M) : qNe x y M Q :=
  eqQ_pl h1 h2 hd fun b h => q _ (by rw [ne_eq, ← h]; cases b <;> simp)
theorem qEq_ll {M : Mem} {a b : Nat} {ds es : List D} {Q : QD} (e1 : M[a]? = some (.lst ds)) (e2 : M[b]? = some (.lst es)) (h1 : pls ds = true) (h2 : pls es = true) (hd : deps ds ≤ 198 ∨ deps es ≤ 198) (q : ∀ b : Bool, (b = true ↔ ds = es) → Q (.bl b) M) : qEq (.loc a) (.loc b) M Q := eqQ_ll e1 e2 h1 h2 hd q
theorem qNe_ll {M : Mem} {a b : Nat} {ds es : List D} {Q : QD} (e1 : M[a]? = some (.lst ds)) (e2 : M[b]? = some (.lst es)) (h1 : pls ds = true) (h2 : pls es = true) (hd : deps ds ≤ 198 ∨ deps es ≤ 198) (q : ∀ b : Bool, (b = true ↔ ds ≠ es) → Q (.bl b) M) : qNe (.loc a) (.loc b) M Q :=
  eqQ_ll e1 e2 h1 h2 hd fun b h => q _ (by rw [ne_eq, ← h]; cases b <;> simp)
theorem qEq_ii {M : Mem} {i j : Int} {Q : QD} : qEq (.int i) (.int j) M Q = Q (.bl (decide (i = j))) M := by
  unfold qEq eqQ py
  rw [pyG_pl (d := .int i) rfl, pyG_pl (d := .int j) rfl]
  unfold toP
  simp only [PyData.canLay0, PyData.depth, PyData.eqv]
  have : (i == j) = decide (i = j) := rfl
  rw [this]
  simp
theorem qNe_ii {M : Mem} {i j : Int} {Q : QD} : qNe (.int i) (.int j) M Q = Q (.bl (!decide (i = j))) M := by
  unfold qNe eqQ py
  rw [pyG_pl (d := .int i) rfl, pyG_pl (d := .int j) rfl]
  unfold toP
  simp only [PyData.canLay0, PyData.depth, PyData.eqv]
  have : (i == j) = decide (i = j) := rfl
  rw [this]
  simp
theorem pls_iff {ds : List D} : pls ds = true ↔ ∀ d ∈ ds, pl d = true := by
  induction ds with
  | nil => unfold pls; simp
  | cons d ds ih => unfold pls; rw [Bool.and_eq_true, ih]; simp
theorem deps_le {ds : List D} {n : Nat} (h : ∀ d ∈ ds, dep d ≤ n) : deps ds ≤ n := by
  induction ds with
  | nil => unfold deps; omega
  | cons d ds ih =>
    unfold deps
    have h1 := h d (List.mem_cons_self ..)
    have h2 := ih fun e he => h e (List.mem_cons_of_mem _ he)
    omega
theorem pls_ints {vs : List Int} : pls (vs.map D.int) = true := by
  rw [pls_iff]; intro d hd; obtain ⟨i, _, rfl⟩ := List.mem_map.mp hd; rfl
theorem deps_ints {vs : List Int} {n : Nat} : deps (vs.map D.int) ≤ n := deps_le fun d hd => by
  obtain ⟨i, _, rfl⟩ := List.mem_map.mp hd
  unfold dep; omega
theorem ints_inj {vs ws : List Int} : vs.map D.int = ws.map D.int ↔ vs = ws :=
  ⟨fun h => by
    induction vs generalizing ws with
    | nil => cases ws with
      | nil => rfl
      | cons _ _ => cases h
    | cons v vs ih => cases ws with
      | nil => cases h
      | cons u ws =>
        simp only [List.map_cons, List.cons.injEq, D.int.injEq] at h
        rw [h.1, ih h.2], fun h => by rw [h]⟩
end DL
namespace DL
open PySem L2
/-! cutting a row of statements -/
theorem cut1 {A R : DTS} {D : DEnds} {r : Rho} {M : Mem} (W : Rho → Mem → Prop) (h2 : ∀ r' M', W r' M' → R D r' M') (h1 : ∀ R', (∀ r' M', W r' M' → R' D r' M') → dSeq A R' D r M) : dSeq A R D r M := h1 R h2
theorem cut2 {A B R : DTS} {D : DEnds} {r : Rho} {M : Mem} (W : Rho → Mem → Prop) (h2 : ∀ r' M', W r' M' → R D r' M') (h1 : ∀ R', (∀ r' M', W r' M' → R' D r' M') → dSeq A (dSeq B R') D r M) : dSeq A (dSeq B R) D r M := h1 R h2
theorem cut3 {A B C R : DTS} {D : DEnds} {r : Rho} {M : Mem} (W : Rho → Mem → Prop) (h2 : ∀ r' M', W r' M' → R D r' M') (h1 : ∀ R', (∀ r' M', W r' M' → R' D r' M') → dSeq A (dSeq B (dSeq C R')) D r M) : dSeq A (dSeq B (dSeq C R)) D r M := h1 R h2
end DL
namespace DL
open PySem L2
theorem inD_ints {i : Int} {vs : List Int} : inD (.int i) (vs.map D.int) = true ↔ i ∈ vs := by
  unfold inD
  rw [List.any_map, List.any_eq_true]
  constructor
  · rintro ⟨j, hj, e⟩
    have : j = i := by
      have e' : (j == i) = true := e
      simpa using e'
    exact this ▸ hj
  · intro h
    refine ⟨i, h, ?_⟩
    show (i == i) = true
    simp
theorem flat_ints {vs : List Int} : (vs.map D.int).all flatD = true := by rw [List.all_map, List.all_eq_true]; intro _ _; rfl
theorem qNotIn_ints {M : Mem} {n : Nat} {i : Int} {vs : List Int} {Q : QD} (e : M[n]? = some (.lst (vs.map D.int))) (k : ∀ b : Bool, (b = true ↔ i ∉ vs) → Q (.bl b) M) : qNotIn (.int i) (.loc n) M Q := by
  unfold qNotIn inQ seqD
  simp only [e]
  refine ⟨rfl, flat_ints, k _ ?_⟩
  rw [← inD_ints]
  simp
theorem qIn_ints {M : Mem} {n : Nat} {i : Int} {vs : List Int} {Q : QD} (e : M[n]? = some (.lst (vs.map D.int))) (k : ∀ b : Bool, (b = true ↔ i ∈ vs) → Q (.bl b) M) : qIn (.int i) (.loc n) M Q := by
  unfold qIn inQ seqD
  simp only [e]
  exact ⟨rfl, flat_ints, k _ inD_ints⟩
theorem for_nil {P : Prop} {α β : Type} {f : α → β} {l : List α} {g : List β} (h : g = l.map f) (e : g = []) : l = [] := by
  cases l with
  | nil => rfl
  | cons _ _ => rw [e] at h; cases h
end DL
namespace DL
theorem decT [h : Decidable True] : decide True = true := decide_eq_true trivial
theorem decF [h : Decidable False] : decide False = false := decide_eq_false id
end DL
namespace DL
open PySem L2

/-! ### terms -/
inductive Tm where
  | var (i : Int) | app (f : Str) (ts : List Tm)
instance : Inhabited Tm := ⟨.var 0⟩
theorem Tm.ind {P : Tm → Prop} (v : ∀ i, P (.var i)) (a : ∀ f ts, (∀ t ∈ ts, P t) → P (.app f ts)) : ∀ t, P t
  | .var i => v i
  | .app f ts => a f ts fun t h => Tm.ind v a t
mutual
def Tm.d : Tm → D
  | .var i => .int i
  | .app f ts => .tup (.str f :: Tm.ds ts)
def Tm.ds : List Tm → List D
  | [] => []
  | t :: ts => t.d :: Tm.ds ts
end
theorem Tm.ds_map : ∀ ts : List Tm, Tm.ds ts = ts.map Tm.d
  | [] => by unfold Tm.ds; rfl
  | t :: ts => by unfold Tm.ds; rw [Tm.ds_map ts]; rfl
theorem Tm.d_var (i : Int) : (Tm.var i).d = .int i := by unfold Tm.d; rfl
theorem Tm.d_app (f : Str) (ts : List Tm) : (Tm.app f ts).d = .tup (.str f :: ts.map Tm.d) := by unfold Tm.d; rw [Tm.ds_map]
mutual
def Tm.size : Tm → Nat
  | .var _ => 1
  | .app _ ts => 1 + Tm.sizes ts
def Tm.sizes : List Tm → Nat
  | [] => 0
  | t :: ts => t.size + Tm.sizes ts
end
theorem Tm.size_var (i : Int) : (Tm.var i).size = 1 := by unfold Tm.size; rfl
theorem Tm.size_app (f : Str) (ts : List Tm) : (Tm.app f ts).size = 1 + Tm.sizes ts := by unfold Tm.size; rfl
theorem Tm.sizes_nil : Tm.sizes [] = 0 := by unfold Tm.sizes; rfl
theorem Tm.sizes_cons (t : Tm) (ts : List Tm) : Tm.sizes (t :: ts) = t.size + Tm.sizes ts := by rw [Tm.sizes]
theorem Tm.sizes_append (ts us : List Tm) : Tm.sizes (ts ++ us) = Tm.sizes ts + Tm.sizes us := by
  induction ts with
  | nil => rw [Tm.sizes_nil]; simp
  | cons t ts ih => rw [List.cons_append, Tm.sizes_cons, Tm.sizes_cons, ih]; omega
theorem Tm.size_pos (t : Tm) : 1 ≤ t.size := by
  cases t with
  | var i => rw [Tm.size_var]; omega
  | app f ts => rw [Tm.size_app]; omega
theorem Tm.size_mem {t : Tm} : ∀ {ts : List Tm}, t ∈ ts → t.size ≤ Tm.sizes ts
  | [], h => by cases h
  | u :: ts, h => by
    rw [Tm.sizes_cons]
    rcases List.mem_cons.mp h with rfl | h
    · omega
    · have := Tm.size_mem h; omega
theorem Tm.len_sizes : ∀ ts : List Tm, ts.length ≤ Tm.sizes ts
  | [] => by simp
  | t :: ts => by rw [Tm.sizes_cons, List.length_cons]; have := Tm.len_sizes ts; have := t.size_pos; omega
mutual
def Tm.deep : Tm → Nat
  | .var _ => 0
  | .app _ ts => 1 + Tm.deeps ts
def Tm.deeps : List Tm → Nat
  | [] => 0
  | t :: ts => max t.deep (Tm.deeps ts)
end
theorem Tm.deep_var (i : Int) : (Tm.var i).deep = 0 := by unfold Tm.deep; rfl
theorem Tm.deep_app (f : Str) (ts : List Tm) : (Tm.app f ts).deep = 1 + Tm.deeps ts := by unfold Tm.deep; rfl
theorem Tm.deeps_nil : Tm.deeps [] = 0 := by unfold Tm.deeps; rfl
theorem Tm.deeps_cons (t : Tm) (ts : List Tm) : Tm.deeps (t :: ts) = max t.deep (Tm.deeps ts) := by rw [Tm.deeps]
theorem Tm.deep_mem {t : Tm} : ∀ {ts : List Tm}, t ∈ ts → t.deep ≤ Tm.deeps ts
  | [], h => by cases h
  | u :: ts, h => by
    rw [Tm.deeps_cons]
    rcases List.mem_cons.mp h with rfl | h
    · omega
    · have := Tm.deep_mem h; omega
theorem Tm.deeps_le {ts : List Tm} {n : Nat} (h : ∀ t ∈ ts, t.deep ≤ n) : Tm.deeps ts ≤ n := by
  induction ts with
  | nil => rw [Tm.deeps_nil]; omega
  | cons t ts ih =>
    rw [Tm.deeps_cons]
    have h1 := h t (List.mem_cons_self ..)
    have h2 := ih fun u hu => h u (List.mem_cons_of_mem _ hu)
    omega
/-- no part of a term is a cell -/
theorem Tm.ok (n : Nat) : ∀ t : Tm, okD n t.d = true := by
  refine Tm.ind (fun i => ?_) fun f ts ih => ?_
  · rw [Tm.d_var]; rfl
  · rw [Tm.d_app]
    unfold okD
    rw [okDs_iff]
    intro d hd
    rcases List.mem_cons.mp hd with rfl | hd
    · rfl
    · obtain ⟨t, ht, rfl⟩ := List.mem_map.mp hd
      exact ih t ht
theorem Tm.oks (n : Nat) (ts : List Tm) : okDs n (ts.map Tm.d) = true := by
  rw [okDs_iff]
  intro d hd
  obtain ⟨t, ht, rfl⟩ := List.mem_map.mp hd
  exact Tm.ok n t
theorem Tm.d_inj {t u : Tm} (h : t.d = u.d) : t = u := by
  revert u
  refine (Tm.ind (P := fun t => ∀ u, t.d = u.d → t = u) (fun i u h => ?_) (fun f ts ih u h => ?_) t : ∀ u, t.d = u.d → t = u) _
  · cases u with
    | var j => rw [Tm.d_var, Tm.d_var] at h; cases h; rfl
    | app g us => rw [Tm.d_var, Tm.d_app] at h; cases h
  · cases u with
    | var j => rw [Tm.d_var, Tm.d_app] at h; cases h
    | app g us =>
      rw [Tm.d_app, Tm.d_app] at h
      injection h with h
      injection h with h1 h2
      injection h1 with h1
      subst h1
      have : ts = us := by
        induction ts generalizing us with
        | nil => cases us with
          | nil => rfl
          | cons _ _ => cases h2
        | cons a ts iht => cases us with
          | nil => cases h2
          | cons b us =>
            simp only [List.map_cons, List.cons.injEq] at h2
            rw [ih a (List.mem_cons_self ..) b h2.1, iht (fun t ht => ih t (List.mem_cons_of_mem _ ht)) us h2.2]
      rw [this]
/-! the blanks as they stand from the left -/
mutual
def Tm.flat : Tm → List Int
  | .var i => [i]
  | .app _ ts => Tm.flats ts
def Tm.flats : List Tm → List Int
  | [] => []
  | t :: ts => t.flat ++ Tm.flats ts
end
theorem Tm.flat_var (i : Int) : (Tm.var i).flat = [i] := by unfold Tm.flat; rfl
theorem Tm.flat_app (f : Str) (ts : List Tm) : (Tm.app f ts).flat = Tm.flats ts := by unfold Tm.flat; rfl
theorem Tm.flats_nil : Tm.flats [] = [] := by unfold Tm.flats; rfl
theorem Tm.flats_cons (t : Tm) (ts : List Tm) : Tm.flats (t :: ts) = t.flat ++ Tm.flats ts := by rw [Tm.flats]
theorem Tm.flats_append (ts us : List Tm) : Tm.flats (ts ++ us) = Tm.flats ts ++ Tm.flats us := by
  induction ts with
  | nil => rw [Tm.flats_nil]; simp
  | cons t ts ih => rw [List.cons_append, Tm.flats_cons, Tm.flats_cons, ih, List.append_assoc]
theorem Tm.flats_len (ts : List Tm) (h : ∀ t ∈ ts, t.flat.length ≤ t.size) : (Tm.flats ts).length ≤ Tm.sizes ts := by
  induction ts with
  | nil => rw [Tm.flats_nil]; simp
  | cons t ts ih =>
    rw [Tm.flats_cons, Tm.sizes_cons, List.length_append]
    have h1 := h t (List.mem_cons_self ..)
    have h2 := ih fun u hu => h u (List.mem_cons_of_mem _ hu)
    omega
theorem Tm.flat_len : ∀ t : Tm, t.flat.length ≤ t.size := by
  refine Tm.ind (fun i => ?_) fun f ts ih => ?_
  · rw [Tm.flat_var, Tm.size_var]; simp
  · rw [Tm.flat_app, Tm.size_app]; have := Tm.flats_len ts ih; omega
/-! all parts, each ahead of its own, from the left -/
mutual
def Tm.pre : Tm → List Tm
  | .var i => [.var i]
  | .app f ts => .app f ts :: Tm.pres ts
def Tm.pres : List Tm → List Tm
  | [] => []
  | t :: ts => t.pre ++ Tm.pres ts
end
theorem Tm.pre_var (i : Int) : (Tm.var i).pre = [.var i] := by unfold Tm.pre; rfl
theorem Tm.pre_app (f : Str) (ts : List Tm) : (Tm.app f ts).pre = .app f ts :: Tm.pres ts := by rw [Tm.pre]
theorem Tm.pres_nil : Tm.pres [] = [] := by unfold Tm.pres; rfl
theorem Tm.pres_cons (t : Tm) (ts : List Tm) : Tm.pres (t :: ts) = t.pre ++ Tm.pres ts := by rw [Tm.pres]
theorem Tm.pres_append (ts us : List Tm) : Tm.pres (ts ++ us) = Tm.pres ts ++ Tm.pres us := by
  induction ts with
  | nil => rw [Tm.pres_nil]; simp
  | cons t ts ih => rw [List.cons_append, Tm.pres_cons, Tm.pres_cons, ih, List.append_assoc]
theorem Tm.pres_len (ts : List Tm) (h : ∀ t ∈ ts, t.pre.length = t.size) : (Tm.pres ts).length = Tm.sizes ts := by
  induction ts with
  | nil => rw [Tm.pres_nil, Tm.sizes_nil]; rfl
  | cons t ts ih =>
    rw [Tm.pres_cons, Tm.sizes_cons, List.length_append]
    have h1 := h t (List.mem_cons_self ..)
    have h2 := ih fun u hu => h u (List.mem_cons_of_mem _ hu)
    omega
theorem Tm.pre_len : ∀ t : Tm, t.pre.length = t.size := by
  refine Tm.ind (fun i => ?_) fun f ts ih => ?_
  · rw [Tm.pre_var, Tm.size_var]; rfl
  · rw [Tm.pre_app, Tm.size_app, List.length_cons]; have := Tm.pres_len ts ih; omega
def Tm.varsOf : List Tm → List Int := fun ts => ts.filterMap fun t => match t with
  | .var i => some i
  | _ => none
theorem Tm.pres_flats (ts : List Tm) (h : ∀ t ∈ ts, Tm.varsOf t.pre = t.flat) : Tm.varsOf (Tm.pres ts) = Tm.flats ts := by
  induction ts with
  | nil => rw [Tm.pres_nil, Tm.flats_nil]; rfl
  | cons t ts ih =>
    rw [Tm.pres_cons, Tm.flats_cons]
    have h1 := h t (List.mem_cons_self ..)
    have h2 := ih fun u hu => h u (List.mem_cons_of_mem _ hu)
    unfold Tm.varsOf at h1 h2 ⊢
    rw [List.filterMap_append, h1, h2]
theorem Tm.pre_flat : ∀ t : Tm, Tm.varsOf t.pre = t.flat := by
  refine Tm.ind (fun i => ?_) fun f ts ih => ?_
  · rw [Tm.pre_var, Tm.flat_var]; rfl
  · rw [Tm.pre_app, Tm.flat_app]
    have := Tm.pres_flats ts ih
    unfold Tm.varsOf at this ⊢
    rw [List.filterMap_cons]
    exact this

/-! ### signs -/
structure Sg where
  nm : Str
  ar : Nat
  wt : Nat
def Sg.d (s : Sg) : D := .tup [.str s.nm, .int s.ar, .int s.wt]
def tlS (x : Str) : List Nat := x.cps.toList
def GoodName (x : Str) : Prop := 1 ≤ (tlS x).length ∧ (tlS x).length ≤ 8 ∧ ∀ c ∈ tlS x, 97 ≤ c ∧ c ≤ 122
structure GoodSigns (ss : List Sg) : Prop where
  names : ∀ s ∈ ss, GoodName s.nm
  nd : (ss.map Sg.nm).Nodup
  ar : ∀ s ∈ ss, s.ar ≤ 4
  wt : ∀ s ∈ ss, 1 ≤ s.wt ∧ s.wt ≤ 9
  len : 4 ≤ ss.length ∧ ss.length ≤ 6
  has : ∀ k : Nat, k ≤ 2 → ∃ s ∈ ss, s.ar = k
/-- a term over signs -/
inductive Over (ss : List Sg) (vs : List Int) : Tm → Prop
  | var {i : Int} : i ∈ vs → Over ss vs (.var i)
  | app {s : Sg} {ts : List Tm} : s ∈ ss → ts.length = s.ar → (∀ t ∈ ts, Over ss vs t) → Over ss vs (.app s.nm ts)
/-- the numbers of blanks that a draw gives -/
structure Free (vs : List Int) : Prop where
  lim : ∀ i ∈ vs, 0 ≤ i ∧ i ≤ 999
  len : vs.length ≤ 4
  nd : vs.Nodup
theorem Tm.sizes_le {ts : List Tm} {n : Nat} (h : ∀ t ∈ ts, t.size ≤ n) : Tm.sizes ts ≤ ts.length * n := by
  induction ts with
  | nil => rw [Tm.sizes_nil]; omega
  | cons t ts ih =>
    rw [Tm.sizes_cons, List.length_cons, Nat.succ_mul]
    have h1 := h t (List.mem_cons_self ..)
    have h2 := ih fun u hu => h u (List.mem_cons_of_mem _ hu)
    omega

/-! names of a term -/
inductive Tm.Nm (p : Str → Prop) : Tm → Prop
  | var {i : Int} : Tm.Nm p (.var i)
  | app {f : Str} {ts : List Tm} : p f → (∀ t ∈ ts, Tm.Nm p t) → Tm.Nm p (.app f ts)
def NameOk (x : Str) : Prop := PyData.strOk x = true
theorem Tm.pl {t : Tm} (h : t.Nm NameOk) : pl t.d = true := by
  induction h with
  | var => rw [Tm.d_var]; rfl
  | app hf _ ih =>
    rw [Tm.d_app]
    unfold DL.pl
    rw [pls_iff]
    intro d hd
    rcases List.mem_cons.mp hd with rfl | hd
    · unfold DL.pl; exact hf
    · obtain ⟨t, ht, rfl⟩ := List.mem_map.mp hd
      exact ih t ht
theorem Tm.dep : ∀ t : Tm, dep t.d = t.deep := by
  refine Tm.ind (fun i => ?_) fun f ts ih => ?_
  · rw [Tm.d_var, Tm.deep_var]; unfold DL.dep; rfl
  · rw [Tm.d_app, Tm.deep_app]
    unfold DL.dep
    have : deps (D.str f :: ts.map Tm.d) = Tm.deeps ts := by
      unfold deps
      have e0 : DL.dep (.str f) = 0 := by unfold DL.dep; rfl
      rw [e0]
      induction ts with
      | nil => rw [Tm.deeps_nil]; unfold deps; rfl
      | cons t ts iht =>
        rw [Tm.deeps_cons, List.map_cons]
        unfold deps
        rw [ih t (List.mem_cons_self ..)]
        have := iht fun u hu => ih u (List.mem_cons_of_mem _ hu)
        omega
    rw [this]; omega
theorem GoodName.ok {x : Str} (h : GoodName x) : NameOk x := by
  obtain ⟨_, _, h⟩ := h
  unfold NameOk PyData.strOk
  rw [Array.all_eq_true']
  intro c hc
  have := h c (by unfold tlS; simpa using hc)
  simp
  omega
theorem Over.nm {ss : List Sg} {vs : List Int} {t : Tm} (h : Over ss vs t) (hs : GoodSigns ss) : t.Nm NameOk := by
  induction h with
  | var _ => exact .var
  | app hm _ _ ih => exact .app (hs.names _ hm).ok ih
theorem Tm.sizes_mem {ts : List Tm} {n : Nat} (h : ∀ t ∈ ts, t.size ≤ n) (hl : ts.length ≤ 4) : Tm.sizes ts ≤ 4 * n := by
  have h1 := Tm.sizes_le h
  have h2 := Nat.mul_le_mul_right n hl
  omega
theorem Over.size {ss : List Sg} {vs : List Int} {t : Tm} (h : Over ss vs t) (hs : GoodSigns ss) : (t.deep ≤ 1 → t.size ≤ 5) ∧ (t.deep ≤ 2 → t.size ≤ 21) ∧ (t.deep ≤ 3 → t.size ≤ 85) ∧ (t.deep = 0 → t.size = 1) := by
  induction h with
  | var _ => rw [Tm.size_var]; omega
  | @app s ts hm hl _ ih =>
    rw [Tm.deep_app, Tm.size_app]
    have hl4 : ts.length ≤ 4 := by rw [hl]; exact hs.ar _ hm
    refine ⟨fun h => ?_, fun h => ?_, fun h => ?_, fun h => by omega⟩
    · have := Tm.sizes_mem (n := 1) (fun t ht => by have h1 := Tm.deep_mem ht; have := (ih t ht).2.2.2; omega) hl4
      omega
    · have := Tm.sizes_mem (n := 5) (fun t ht => by have h1 := Tm.deep_mem ht; exact (ih t ht).1 (by omega)) hl4
      omega
    · have := Tm.sizes_mem (n := 21) (fun t ht => by have h1 := Tm.deep_mem ht; exact (ih t ht).2.1 (by omega)) hl4
      omega

/-! signs of one part round a term -/
def Tm.tall : Nat → Tm → Tm
  | 0, t => t
  | k + 1, t => .app "up" [Tm.tall k t]
theorem Tm.tall_deep (k : Nat) (t : Tm) : (Tm.tall k t).deep = k + t.deep := by
  induction k with
  | zero => unfold Tm.tall; omega
  | succ k ih => rw [Tm.tall, Tm.deep_app, Tm.deeps_cons, Tm.deeps_nil, ih]; omega
theorem Tm.tall_size (k : Nat) (t : Tm) : (Tm.tall k t).size = k + t.size := by
  induction k with
  | zero => unfold Tm.tall; omega
  | succ k ih => rw [Tm.tall, Tm.size_app, Tm.sizes_cons, Tm.sizes_nil, ih]; omega
theorem Tm.tall_nm {p : Str → Prop} (h : p "up") (k : Nat) {t : Tm} (ht : t.Nm p) : (Tm.tall k t).Nm p := by
  induction k with
  | zero => exact ht
  | succ k ih => exact .app h fun u hu => by rw [List.mem_singleton.mp hu]; exact ih
theorem Tm.sizes_sum (ts : List Tm) : (List.map (fun t : Tm => (t.size : Int)) ts).sum = (Tm.sizes ts : Nat) := by
  induction ts with
  | nil => rw [Tm.sizes_nil]; rfl
  | cons t ts ih => rw [List.map_cons, List.sum_cons, ih, Tm.sizes_cons]; omega

/-! each once, as they first stand -/
def addNew (acc : List Int) (i : Int) : List Int := if i ∈ acc then acc else acc ++ [i]
def dedup (l : List Int) : List Int := l.foldl addNew []
theorem addNew_len (acc : List Int) (i : Int) : (addNew acc i).length ≤ acc.length + 1 := by
  unfold addNew
  split <;> simp
theorem dedup_len (l : List Int) : (dedup l).length ≤ l.length := by
  have : ∀ (l acc : List Int), (l.foldl addNew acc).length ≤ acc.length + l.length := by
    intro l
    induction l with
    | nil => intro acc; simp
    | cons a l ih =>
      intro acc
      rw [List.foldl_cons, List.length_cons]
      have h1 := ih (addNew acc a)
      have h2 := addNew_len acc a
      omega
  have := this l []
  simpa [dedup] using this
theorem dedup_snoc (l : List Int) (i : Int) : dedup (l ++ [i]) = addNew (dedup l) i := by
  unfold dedup
  rw [List.foldl_append]
  rfl
def trues (l : List Int) : List (Key × D) := l.map fun j => (Sum.inl j, D.bl true)
theorem putD_true (l : List Int) (i : Int) : putD (trues l) (Sum.inl i) (.bl true) = trues (addNew l i) := by
  unfold putD addNew trues
  by_cases h : i ∈ l
  · rw [if_pos h, if_pos]
    · rw [List.map_map]
      refine List.map_congr_left fun j _ => ?_
      show (if (Sum.inl j : Key) = Sum.inl i then ((Sum.inl j : Key), D.bl true) else (Sum.inl j, D.bl true)) = _
      split <;> rfl
    · rw [List.any_map, List.any_eq_true]
      exact ⟨i, h, by simp⟩
  · rw [if_neg h, if_neg]
    · rw [List.map_append]; rfl
    · rw [List.any_map, List.any_eq_true]
      rintro ⟨j, hj, e⟩
      have : j = i := by simpa using e
      exact h (this ▸ hj)
end DL
namespace DL
open PySem L2
/-! ### del xs[a:] -/
theorem sel_take {α : Type} {sel : Nat → Bool} {xs : List α} {k : Nat} (h : ∀ i, i < xs.length → sel i = decide (k ≤ i)) : (xs.zipIdx.filterMap fun x => if sel x.2 = true then none else some x.1) = xs.take k := by
  have gen : ∀ (xs : List α) (j k : Nat), (∀ i, i < xs.length → sel (j + i) = decide (k ≤ i)) → ((xs.zipIdx j).filterMap fun x => if sel x.2 = true then none else some x.1) = xs.take k := by
    intro xs
    induction xs with
    | nil => intro j k _; simp
    | cons x xs ih =>
      intro j k h
      rw [List.zipIdx_cons, List.filterMap_cons]
      have h0 := h 0 (by simp)
      simp only [Nat.add_zero] at h0
      cases k with
      | zero =>
        have : sel j = true := by rw [h0]; simp
        simp only [this, if_true]
        rw [ih (j + 1) 0 fun i hi => by have := h (i + 1) (by simpa using hi); rw [Nat.add_assoc, Nat.add_comm 1 i, this]; simp]
        simp
      | succ k =>
        have : sel j = false := by rw [h0]; simp
        simp only [this]
        rw [ih (j + 1) k fun i hi => by have := h (i + 1) (by simpa using hi); rw [Nat.add_assoc, Nat.add_comm 1 i, this]; simp]
        simp
  exact gen xs 0 k fun i hi => by rw [Nat.zero_add]; exact h i hi
section
variable {prog : Program} {w : World} {A : Around} {E : Value → Shared → Prop} {s : Shared}
theorem delItem_tail {l sl : Addr} {items : Array Value} {n : Nat} {vl : Value} {lo : Option Int} {Q : Unit → Shared → Prop}
    (e : s.heap.get? l = some { cls := .type "list", data := .seq items n }) (hs : s.heap.IsSliceOf sl vl .none .none) (pl : IsPart vl lo) (hsz : items.size ≤ sizeLine)
    (h : ∀ f : Array Value → Array Value, (f items).toList = items.toList.take (HT.sIx items.size 0 lo) → Q () { s with heap := s.heap.update l (Obj.mapSeq f) }) :
    wpAny (model prog w) A (delItem (.ref l) (.ref sl)) Q E s := by
  have hl : s.heap.IsList l items := PySem.IsL.isList e
  obtain ⟨os, hos, hcs, hds⟩ := id hs
  have hTs : s.TypeIs (.ref sl) "slice" := ⟨os, hos, hcs⟩
  have hstep : ¬ ((rawPart none == rawInt 0) = true) := Bool.false_ne_true
  obtain ⟨hb1, hb2, hb3⟩ := slice_bounds lo none items.size
  refine wpAny_delItem_slot hl.typeIs (by decide) F.slot_list_delitem (wpAny_call_entry F.slot_list_delitem hl.typeIs F.entry_list_delitem ?_ (F.args_list_delitem_2 _ _))
  unfold Builtin.«list.__delitem__»
  refine wpAny_bind (m := slotArgs "__delitem__" 1 _) ?_
  show wpAny _ _ (pure (Value.ref l, [Value.ref sl])) _ _ s
  refine wpAny_pure ?_
  show wpAny _ _ (Builtin.List.listSubscript? (.ref sl) >>= _) _ _ s
  refine wpAny_bind ?_
  unfold Builtin.List.listSubscript?
  refine wpAny_bind (wpAny_specialOf hTs slice_no_index ?_)
  simp only [Option.isNone_none, if_true]
  refine wpAny_pure ?_
  show wpAny _ _ (typeOf (.ref sl) >>= _) _ _ s
  refine wpAny_bind (wpAny_typeOf hTs ?_)
  first
    | rw [if_neg (by decide)]
    | refine PySem.W.KFB.if_not (by decide) ?_
  rw [listSliceParts_eq]
  refine wpAny_bind (wpAny_bind (wpAny_field hos hds (x := .none) rfl (wpAny_bind (wpAny_listPart .none ?_))))
  rw [if_neg hstep]
  refine wpAny_bind (wpAny_field hos hds (x := vl) rfl (wpAny_bind (wpAny_listPart pl ?_)))
  refine wpAny_bind (wpAny_field hos hds (x := .none) rfl (wpAny_bind (wpAny_listPart .none (wpAny_pure ?_))))
  unfold Builtin.List.listItems
  refine wpAny_bind (wpAny_bind (wpAny_seqItems e rfl (wpAny_pure ?_)))
  have hbe : sliceBounds lo none none items.size = (((HT.sIx items.size 0 lo : Nat) : Int), ((items.size : Nat) : Int), 1) := Prod.ext hb1 (Prod.ext hb2 hb3)
  refine wpAny_bind (wpAny_of_eq ((sliceIndices_raw lo none none items.size (by simp)).trans (congrArg (pure : Int × Int × Int → Sem (Int × Int × Int)) hbe)) ?_)
  refine wpAny_bind (wpAny_rule ?_)
  have key : ∀ sel : Nat → Bool, (∀ i, sel i = (decide (((HT.sIx items.size 0 lo : Nat) : Int) ≤ (i : Int)) && decide ((i : Int) < ((items.size : Nat) : Int)) && ((i : Int) - ((HT.sIx items.size 0 lo : Nat) : Int)) % 1 == 0)) →
      (items.toList.zipIdx.filterMap fun x => if sel x.2 = true then none else some x.1) = items.toList.take (HT.sIx items.size 0 lo) := fun sel hsel => by
    refine sel_take fun i hi => ?_
    rw [hsel i, Int.emod_one]
    have : i < items.size := by simpa using hi
    by_cases hk : HT.sIx items.size 0 lo ≤ i
    · rw [decide_eq_true (by omega : ((HT.sIx items.size 0 lo : Nat) : Int) ≤ (i : Int)), decide_eq_true (by omega : (i : Int) < ((items.size : Nat) : Int)), decide_eq_true hk]; rfl
    · rw [decide_eq_false (by omega : ¬ ((HT.sIx items.size 0 lo : Nat) : Int) ≤ (i : Int)), decide_eq_false hk]; rfl
  have fin : ∀ (f : Array Value → Array Value) (g : List Value), (f items).toList = items.toList.take (HT.sIx items.size 0 lo) →
      wpAny (model prog w) A.in1 (updateSeq l f >>= fun _ => letGo g >>= fun _ => ret .none) (fun fin s' => ∃ v, fin = Fin.done (Flow.ret v) ∧ Q () s') E s := fun f g hf => by
    have hz' : (f items).size ≤ sizeLine + 1 := by
      rw [← Array.length_toList, hf, List.length_take, Array.length_toList]
      omega
    refine wpAny_bind (wpAny_updateSeq (hz := hsz) (_hz' := hz') e rfl ?_)
    refine wpAny_bind (wpAny_letGo ?_)
    first
      | exact wpAny_pure ⟨.none, rfl, h f hf⟩
      | exact wpAny_bind (wpAny_pure (wpAny_pure ⟨.none, rfl, h f hf⟩))
  refine fin _ _ ?_
  exact key _ fun i => rfl
end
section
variable {X : Cx}
theorem del_tail {pins : List (Addr × Obj)} {s : Shared} {σ : St} {H : Hp} {l sl : Addr} {xs : List V} {lo : Option Int} {vl : Value} {Q : Unit → Shared → Prop} (I : Inv X pins σ H s)
    (hH : H l = some (.lst xs)) (hs : s.heap.IsSliceOf sl vl .none .none) (pl : IsPart vl lo) (h : ∀ s', Inv X pins σ (upd H l (.lst (xs.take (HT.sIx xs.length 0 lo)))) s' → Q () s') :
    wpAny (model X.prog X.w) X.A (delItem (.ref l) (.ref sl)) Q X.xe s := by
  obtain ⟨z, its, n, r, hl, e⟩ := I.lstM hH
  have hlen : its.toArray.size = xs.length := by rw [List.size_toArray]; exact r.length.symm
  refine delItem_tail e hs pl (by omega) fun f hf => h _ ?_
  rw [hlen] at hf
  refine I.lset (its' := its.take (HT.sIx xs.length 0 lo)) (t' := s.toks) hH e ?_ (r.take _) ?_
  · exact Array.toList_inj.mp (by rw [hf])
  · rw [List.length_take]; omega
def tDelT (to : TE) (tl : TO) : TS := fun D σ H => to σ H fun x H1 => tl σ H1 fun lo H2 => ∃ (l : Addr) (xs : List V), x = .ref l ∧ H2 l = some (.lst xs) ∧ D.nx σ (upd H2 l (.lst (xs.take (HT.sIx xs.length 0 lo))))
theorem ps_delT {o : Expr} {lo : Option Expr} {to : TE} {tl : TO} {p1 p2 pos : Pos} (ho : PE X o to) (hl : PO X lo tl) : PS X (.Delete [.Subscript o (.Slice lo none none p1) p2] pos) (tDelT to tl) := by
  refine ⟨fun pins s σ H D I h => ?_⟩
  refine wpAny_Delete (wpAny_deleteEach_cons (wpAny_delete_Subscript (thn (ho.run pins s σ H _ I h) fun u s1 ⟨x, H1, I1, rx, q1⟩ => ?_)))
  refine wpAny_Slice (thn (hl.run pins s1 σ H1 _ I1 q1) fun vl s2 ⟨a, H2, I2, pl, q2⟩ => ?_)
  refine thn (po_none.run pins s2 σ H2 (fun o H3 => o = none ∧ H3 = H2) I2 ⟨rfl, rfl⟩) fun vu s3 ⟨b, H3, I3, pu, eb, e3⟩ => ?_
  subst eb e3
  refine thn (po_none.run pins s3 σ H3 (fun o H4 => o = none ∧ H4 = H3) I3 ⟨rfl, rfl⟩) fun vs s4 ⟨c, H4, I4, ps, ec, e4⟩ => ?_
  subst ec e4
  have I5 : Inv X pins σ H4 { s4 with heap := s4.heap.push { cls := .type "slice", data := .fields #[vl, vu, vs] } } := I4.kept (t' := s4.toks) fun b ob q => Heap.get?_push_of_some _ q
  obtain ⟨l, xs, ex, hH, q⟩ := q2
  subst ex
  cases rx
  cases pu
  cases ps
  exact del_tail I5 hH (Heap.IsSliceOf.new ..) pl fun s6 I6 => wpAny_deleteEach_nil ⟨σ, _, I6, q⟩
end
section
variable {z : Zx}
def dDelT (to : DTE) (tl : DTO) : DTS := fun D r M => to r M fun x M1 => tl r M1 fun lo M2 => match x with
  | .loc n => (match M2[n]? with
    | some (.lst ds) => D.nx r (M2.set n (.lst (ds.take (HT.sIx ds.length 0 lo))))
    | _ => False)
  | _ => False
theorem ds_delT {o : Expr} {lo : Option Expr} {to : DTE} {tl : DTO} {p1 p2 pos : Pos} (ho : DE z o to) (hl : DO z lo tl) : DS z (.Delete [.Subscript o (.Slice lo none none p1) p2] pos) (dDelT to tl) := by
  obtain ⟨wo, po, lo'⟩ := ho
  obtain ⟨wl, pl, ll⟩ := hl
  refine ⟨_, ps_delT po pl, fun m r M σ H E Dd s q l => ?_⟩
  refine lo' m r M σ H _ _ s q fun x M1 m1 v H1 q1 g1 r1 d1 => ll m1 r M1 σ H1 _ _ (s.grow g1 r1) q1 fun o2 M3 m3 H3 q3 g3 r3 => ?_
  have d3 := d1.grow g3
  split at q3
  · rename_i n
    split at q3
    · rename_i ds em
      obtain ⟨a, vs, rfl, ea, eh, rd⟩ := r3.lst d3 em
      refine ⟨a, vs, rfl, eh, ?_⟩
      rw [rd.length]
      have g : Grow m3 H3 m3 (upd H3 a (.lst (vs.take (HT.sIx ds.length 0 o2)))) := Grow.put r3 ea (by rw [eh]; trivial)
      have r4 := r3.put ea (by rw [eh]; trivial) (o := .lst (ds.take (HT.sIx ds.length 0 o2))) ⟨vs.take (HT.sIx ds.length 0 o2), upd_same, (rd.take _).grow g⟩
      exact l.nx _ _ _ _ _ q3 (g1.trans (g3.trans g)) (s.grow (g1.trans (g3.trans g)) r4)
    · exact q3.elim
  · exact q3.elim
end
end DL
namespace DL
open PySem L2
/-! ### {k: v, ..} -/
section
variable {K : PySem.W.Frag} {m : List Addr} {H : Hp} {M : Mem}
def mergeD (kvs more : List (Key × D)) : List (Key × D) := more.foldl (fun acc kv => putD acc kv.1 kv.2) kvs
theorem RKV.merge : ∀ {more : List (Key × D)} {ms : List (Key × V)} {kvs : List (Key × D)} {ws : List (Key × V)}, RKV K m H more ms → RKV K m H kvs ws → RKV K m H (mergeD kvs more) (mergeK ws ms)
  | [], _, _, _, r, r' => by unfold RKV at r; subst r; exact r'
  | p :: more, _, kvs, ws, r, r' => by
    unfold RKV at r
    obtain ⟨v, s, rfl, r1, r2⟩ := r
    unfold mergeD mergeK
    rw [List.foldl_cons, List.foldl_cons]
    exact RKV.merge r2 (r'.put r1)
end
def dPairs : List (DTE × DTE) → Rho → Mem → (List (Key × D) → Mem → Prop) → Prop
  | [], _, M, Q => Q [] M
  | (tk, tv) :: rest, r, M, Q => tk r M fun k M1 => tv r M1 fun v M2 => (match keyD k with
    | some q => dPairs rest r M2 fun kvs M3 => Q ((q, v) :: kvs) M3
    | none => False)
def DPs (z : Zx) (pos : Pos) (keys : List (Option Expr)) (vals : List Expr) (dts : List (DTE × DTE)) : Prop := ∃ trs, PPs z.X pos keys vals trs ∧
  ∀ m r M σ H (Q : List (V × V) → Hp → Prop) (Qd : List (Key × D) → Mem → Prop), RS z m r M σ H → dPairs dts r M Qd →
    (∀ kvs M' m' ws H', Qd kvs M' → Grow m H m' H' → RM z.X.K m' H' M' → RKV z.X.K m' H' kvs ws → Q (ws.map fun kv => (kV kv.1, kv.2)) H') → tPairs trs σ H Q
section
variable {z : Zx} {pos : Pos}
theorem dps_nil : DPs z pos [] [] [] := ⟨_, pps_nil, fun m r M σ H Q Qd s q t => t [] M m [] H q .refl s.rm (by unfold RKV; rfl)⟩
theorem dps_cons {k v : Expr} {ks : List (Option Expr)} {vs : List Expr} {tk tv : DTE} {dts : List (DTE × DTE)} (hk : DE z k tk) (hv : DE z v tv) (h : DPs z pos ks vs dts) : DPs z pos (some k :: ks) (v :: vs) ((tk, tv) :: dts) := by
  obtain ⟨wk, pk, lk⟩ := hk
  obtain ⟨wv, pv, lv⟩ := hv
  obtain ⟨trs, pp, lp⟩ := h
  refine ⟨_, pps_cons pk pv pp, fun m r M σ H Q Qd s q t => ?_⟩
  refine lk m r M σ H _ _ s q fun x M1 m1 xv H1 q1 g1 r1 d1 => lv m1 r M1 σ H1 _ _ (s.grow g1 r1) q1 fun y M2 m2 yv H2 q2 g2 r2 d2 => ?_
  split at q2
  · rename_i key ek
    have s2 := s.grow (g1.trans g2) r2
    refine lp m2 r M2 σ H2 _ _ s2 q2 fun kvs M3 m3 ws H3 q3 g3 r3 rk => ?_
    have ex := key_ofD ek d1
    subst ex
    exact t _ _ _ ((key, yv) :: ws) _ q3 (g1.trans (g2.trans g3)) r3 ⟨yv, ws, rfl, d2.grow g3, rk⟩
  · exact q2.elim
def dDisp (dts : List (DTE × DTE)) : DTE := fun r M Q => dPairs dts r (M ++ [.dic []]) fun kvs M2 => M2[M.length]? = some (.dic []) ∧ kvs.length ≤ 15 ∧ Q (.loc M.length) (M2.set M.length (.dic (mergeD [] kvs)))
theorem de_disp {keys : List (Option Expr)} {vals : List Expr} {dts : List (DTE × DTE)} (h : DPs z pos keys vals dts) (hall : (keys.all fun x => x.isSome) = true := by rfl) (hl : keys.length = vals.length := by rfl) (h0 : keys ≠ [] := by intro h; cases h) (h15 : keys.length ≤ 15 := by decide) :
    DE z (.Dict keys vals pos) (dDisp dts) := by
  obtain ⟨trs, pp, lp⟩ := h
  refine ⟨_, pe_disp pp hall hl h0 h15, fun m r M σ H Q Qd s q t p hp => ?_⟩
  have g0 : Grow m H (m ++ [p]) (upd H p (.dK [])) := Grow.cell hp
  have r0 : RM z.X.K (m ++ [p]) (upd H p (.dK [])) (M ++ [.dic []]) := s.rm.cell hp ⟨[], upd_same, by unfold RKV; rfl⟩
  refine lp _ r _ σ _ _ _ (s.grow g0 r0) q fun kvs M' m' ws H' q' g' r' rk => ?_
  obtain ⟨eM, hl15, q'⟩ := q'
  have ea : m'[M.length]? = some p := by
    have h1 : (m ++ [p])[M.length]? = some p := by rw [← s.rm.len]; simp
    obtain ⟨w, e⟩ := g'.pre
    rw [← e, List.getElem?_append_left (by rw [List.length_append, s.rm.len]; simp)]
    exact h1
  have rd : RD z.X.K m' H' (.loc M.length) (.ref p) := by unfold RD; exact ⟨p, rfl, ea⟩
  obtain ⟨a, vs, e1, e2, e3, e4⟩ := r'.dic rd eM
  cases e1
  unfold RKV at e4
  subst e4
  have hlen := rk.length
  refine ⟨e3, ws, rfl, by omega, ?_⟩
  exact put_dic r' ea (by rw [e3]; trivial) (rk.merge (kvs := []) (ws := []) (by unfold RKV; rfl)) rd q' (t.grow (g0.trans g'))
end
/-! ### == of two dicts of plain data -/
def sameD (ks ls : List (Key × D)) : Bool := ks.length == ls.length && ks.all fun p => match valD ls p.1 with
  | some v => PyData.eqv (toP p.2) (toP v)
  | none => false
def plK (ks : List (Key × D)) : Bool := ks.all fun p => pl p.2
section
variable {z : Zx} {K : PySem.W.Frag} {m : List Addr} {H : Hp} {M : Mem}
def rNeK (K : PySem.W.Frag) (n : Nat) (neg : Bool) : R2 := fun x y H Q => ∃ a b ks ls, x = .ref a ∧ y = .ref b ∧ H a = some (.dK ks) ∧ H b = some (.dK ls) ∧
  ∃ c : Bool, (∀ (X : Cx) (pins : List (Addr × Obj)) (σ : St) (s : Shared) (va vb : List (Key × Value)), X.K = K → Inv X pins σ H s → KV ks va → KV ls vb → ks.length = ls.length → X.A.units + n < cLine → PySem.W.KeqHits X.A.in1 s vb va c) ∧ Q (.bl (neg != (ks.length == ls.length && c))) H
theorem op_neK {X : Cx} {n : Nat} (hu : X.A.units + n < cLine) : OpR X (compareOp .NotEq) (rNeK X.K n true) := by
  intro pins s σ H x y v u Q I rx ry h
  obtain ⟨a, b, ks, ls, rfl, rfl, ea, eb, c, hc, q⟩ := h
  obtain rfl : v = Value.ref a := rx
  obtain rfl : u = Value.ref b := ry
  obtain ⟨_, ya, va, ra, da⟩ := (show ObjOk X.prog X.w H s.heap a (.dK ks) from I.hok a _ ea)
  obtain ⟨_, yb, vb, rb, db⟩ := (show ObjOk X.prog X.w H s.heap b (.dK ls) from I.hok b _ eb)
  have e : (va.length == vb.length) = (ks.length == ls.length) := by rw [ra.length, rb.length]
  refine PySem.W.keq_ne (knd := mixKind X.prog X.w) (r := c) ya yb da db (by omega) (fun hl => hc X pins σ s va vb rfl I ra rb (by rw [ra.length, rb.length]; exact hl) hu) ?_
  rw [e]
  exact ⟨.bl _, H, I, rfl, by simpa using q⟩
theorem op_eqK {X : Cx} {n : Nat} (hu : X.A.units + n < cLine) : OpR X (compareOp .Eq) (rNeK X.K n false) := by
  intro pins s σ H x y v u Q I rx ry h
  obtain ⟨a, b, ks, ls, rfl, rfl, ea, eb, c, hc, q⟩ := h
  obtain rfl : v = Value.ref a := rx
  obtain rfl : u = Value.ref b := ry
  obtain ⟨_, ya, va, ra, da⟩ := (show ObjOk X.prog X.w H s.heap a (.dK ks) from I.hok a _ ea)
  obtain ⟨_, yb, vb, rb, db⟩ := (show ObjOk X.prog X.w H s.heap b (.dK ls) from I.hok b _ eb)
  have e : (va.length == vb.length) = (ks.length == ls.length) := by rw [ra.length, rb.length]
  refine PySem.W.keq_eq (knd := mixKind X.prog X.w) (r := c) ya yb da db (by omega) (fun hl => hc X pins σ s va vb rfl I ra rb (by rw [ra.length, rb.length]; exact hl) hu) ?_
  rw [e]
  exact ⟨.bl _, H, I, rfl, by simpa using q⟩
/-- the walk over the first dict's entries -/
theorem hits_pl {X : Cx} {pins : List (Addr × Obj)} {σ : St} {s : Shared} {ls : List (Key × D)} {wl : List (Key × V)} {vb : List (Key × Value)} (I : Inv X pins σ H s) (rl : RKV X.K m H ls wl) (kl : KV wl vb) (r : RM X.K m H M) (pb : plK ls = true)
    (hd : ∀ p ∈ ls, dep p.2 ≤ 198) (hu : X.A.units + 199 < cLine) : ∀ {ks : List (Key × D)} {wk : List (Key × V)} {va : List (Key × Value)}, RKV X.K m H ks wk → KV wk va → plK ks = true →
    PySem.W.KeqHits X.A.in1 s vb va (ks.all fun p => match valD ls p.1 with
      | some v => PyData.eqv (toP p.2) (toP v)
      | none => false)
  | [], _, va, rk, kk, _ => by
    unfold RKV at rk
    subst rk
    cases kk
    exact .nil
  | p :: ks, wk, va, rk, kk, pk => by
    unfold RKV at rk
    obtain ⟨v, ws, rfl, r1, r2⟩ := rk
    unfold plK at pk
    rw [List.all_cons, Bool.and_eq_true] at pk
    unfold KV at kk
    cases kk with
    | @cons _ q _ va h t =>
    obtain ⟨h1, h2⟩ := h
    obtain ⟨key, val⟩ := q
    have h1' : p.1 = key := h1
    have ih := hits_pl I rl kl r pb hd hu r2 t pk.2
    rw [List.all_cons]
    have hv := kl.val p.1
    rcases rl.val (k := p.1) with ⟨e1, e2⟩ | ⟨d, u, e1, e2, rd⟩
    · rw [e2] at hv
      rw [e1]
      subst h1'
      have hn : valueAt vb p.1 = none := by
        cases hq : valueAt vb p.1 with
        | none => rfl
        | some y => rw [hq] at hv; exact hv.elim
      exact .miss hn
    · rw [e2] at hv
      rw [e1]
      obtain ⟨y, hy, ry⟩ := hv.some_of
      subst h1'
      obtain ⟨i, hi⟩ : ∃ i, i ∈ ls ∧ i.2 = d := by
        unfold valD at e1
        obtain ⟨i, hi, rfl⟩ := Option.map_eq_some_iff.mp e1
        exact ⟨i, List.mem_of_find?_eq_some hi, rfl⟩
      have pd : pl d = true := by
        have := List.all_eq_true.mp pb i hi.1
        rw [hi.2] at this
        exact this
      have dd : dep d ≤ 198 := by rw [← hi.2]; exact hd i hi.1
      obtain ⟨as, R1⟩ := Dp.reads I _ _ _ (py_ok r (py_pl (M := M) pk.1) r1) h2
      obtain ⟨bs, R2⟩ := Dp.reads I _ _ _ (py_ok r (py_pl (M := M) pd) rd) ry
      refine .hit hy (SeqAt.eqAt_reads _ _ X.A.in1 s _ _ as bs R1 R2 (lay_pl pk.1) (lay_pl pd) ?_) ih
      rw [depth_pl, depth_pl]
      show X.A.units + 1 + min (dep p.2) (dep d) < cLine
      omega
def eqK (x y : D) (M : Mem) (k : Bool → Prop) : Prop := match x, y with
  | .loc a, .loc b => (match M[a]?, M[b]? with
    | some (.dic ks), some (.dic ls) => plK ks = true ∧ plK ls = true ∧ (∀ p ∈ ls, dep p.2 ≤ 198) ∧ k (sameD ks ls)
    | _, _ => False)
  | _, _ => False
def qEqK : DR2 := fun x y M Q => eqK x y M fun b => Q (.bl b) M
def qNeK : DR2 := fun x y M Q => eqK x y M fun b => Q (.bl (!b)) M
theorem eqK_of {x y : D} {v w : V} {k : Bool → Prop} (r : RM K m H M) (d1 : RD K m H x v) (d2 : RD K m H y w) (h : eqK x y M k) :
    ∃ a b ks ls, v = .ref a ∧ w = .ref b ∧ H a = some (.dK ks) ∧ H b = some (.dK ls) ∧
      ∃ c : Bool, (∀ (X : Cx) (pins : List (Addr × Obj)) (σ : St) (s : Shared) (va vb : List (Key × Value)), X.K = K → Inv X pins σ H s → KV ks va → KV ls vb → ks.length = ls.length → X.A.units + 199 < cLine → PySem.W.KeqHits X.A.in1 s vb va c) ∧ k (ks.length == ls.length && c) := by
  unfold eqK at h
  split at h
  · split at h
    · rename_i ks ls e1 e2
      obtain ⟨a, ws, rfl, ea, eh, rk⟩ := r.dic d1 e1
      obtain ⟨b, us, rfl, eb, eh2, rl⟩ := r.dic d2 e2
      refine ⟨a, b, ws, us, rfl, rfl, eh, eh2, (ks.all fun p => match valD ls p.1 with
        | some v => PyData.eqv (toP p.2) (toP v)
        | none => false), fun X pins σ s va vb eK I ka kb hl hu => ?_, ?_⟩
      rotate_left
      · have h4 := h.2.2.2
        unfold sameD at h4
        rw [← rk.length, ← rl.length] at h4
        exact h4
      · subst eK
        exact hits_pl I rl kb r h.2.1 h.2.2.1 hu rk ka h.1
    · exact h.elim
  · exact h.elim
theorem dop_eqK {k : Nat} (hr : Room k z.X.A) : DOp z (compareOp .Eq) qEqK := by
  refine ⟨_, op_eqK (room_eq hr), fun m M H x y dx dy Q Qd r d1 d2 h t => ?_⟩
  obtain ⟨a, b, ks, ls, rfl, rfl, ea, eb, c, hc, q⟩ := eqK_of r d1 d2 h
  exact ⟨a, b, ks, ls, rfl, rfl, ea, eb, c, hc, t _ _ _ _ _ q .refl r (by rw [show (false != (ks.length == ls.length && c)) = (ks.length == ls.length && c) by simp]; exact RD.bl')⟩
theorem dop_neK {k : Nat} (hr : Room k z.X.A) : DOp z (compareOp .NotEq) qNeK := by
  refine ⟨_, op_neK (room_eq hr), fun m M H x y dx dy Q Qd r d1 d2 h t => ?_⟩
  obtain ⟨a, b, ks, ls, rfl, rfl, ea, eb, c, hc, q⟩ := eqK_of r d1 d2 h
  exact ⟨a, b, ks, ls, rfl, rfl, ea, eb, c, hc, t _ _ _ _ _ q .refl r (by rw [show (true != (ks.length == ls.length && c)) = !(ks.length == ls.length && c) by simp]; exact RD.bl')⟩
end
end DL
namespace DL
open PySem L2
theorem qNeK_same {M : Mem} {a b : Nat} {ks : List (Key × D)} {Q : QD} (e1 : M[a]? = some (.dic ks)) (e2 : M[b]? = some (.dic ks)) (hp : plK ks = true) (hd : ∀ p ∈ ks, dep p.2 ≤ 198) (hs : sameD ks ks = true) (k : Q (.bl false) M) : qNeK (.loc a) (.loc b) M Q := by
  unfold qNeK eqK
  simp only [e1, e2]
  exact ⟨hp, hp, hd, by rw [hs]; exact k⟩
end DL
namespace DL
open PySem L2
/-! ### fillings -/

abbrev Fl := List (Int × Tm)
def flD (fs : Fl) : List (Key × D) := fs.map fun p => (Sum.inl p.1, p.2.d)
def getF (fs : Fl) (i : Int) : Option Tm := (fs.find? fun p => decide (p.1 = i)).map (·.2)
def putF (fs : Fl) (i : Int) (t : Tm) : Fl := if fs.any (fun p => decide (p.1 = i)) then fs.map (fun p => if p.1 = i then (p.1, t) else p) else fs ++ [(i, t)]
theorem val_flD (fs : Fl) (i : Int) : valD (flD fs) (Sum.inl i) = (getF fs i).map Tm.d := by
  unfold valD flD getF
  rw [List.find?_map, Option.map_map, Option.map_map]
  have : ((fun kv : Key × D => decide (kv.1 = Sum.inl i)) ∘ fun p : Int × Tm => ((Sum.inl p.1 : Key), p.2.d)) = fun p => decide (p.1 = i) := by
    funext p
    simp
  rw [this]
  rfl
theorem put_flD (fs : Fl) (i : Int) (t : Tm) : putD (flD fs) (Sum.inl i) t.d = flD (putF fs i t) := by
  unfold putD putF flD
  have e : (fs.map fun p => ((Sum.inl p.1 : Key), p.2.d)).any (fun kv => decide (kv.1 = Sum.inl i)) = fs.any (fun p => decide (p.1 = i)) := by
    rw [List.any_map]
    congr 1
    funext p
    simp
  rw [e]
  split
  · rw [List.map_map, List.map_map]
    refine List.map_congr_left fun p _ => ?_
    show (if (Sum.inl p.1 : Key) = Sum.inl i then ((Sum.inl p.1 : Key), t.d) else (Sum.inl p.1, p.2.d)) = _
    by_cases h : p.1 = i
    · simp [h]
    · simp [h]
  · rw [List.map_append]; rfl
theorem putF_len (fs : Fl) (i : Int) (t : Tm) : (putF fs i t).length ≤ fs.length + 1 := by
  unfold putF
  split <;> simp
theorem putF_all {p : Tm → Prop} {fs : Fl} {i : Int} {t : Tm} (h : ∀ q ∈ fs, p q.2) (ht : p t) : ∀ q ∈ putF fs i t, p q.2 := by
  intro q hq
  unfold putF at hq
  split at hq
  · obtain ⟨r, hr, e⟩ := List.mem_map.mp hq
    by_cases he : r.1 = i
    · rw [if_pos he] at e; rw [← e]; exact ht
    · rw [if_neg he] at e; rw [← e]; exact h r hr
  · rcases List.mem_append.mp hq with h' | h'
    · exact h q h'
    · rw [List.mem_singleton.mp h']; exact ht
theorem getF_mem {fs : Fl} {i : Int} {t : Tm} (h : getF fs i = some t) : ∃ q ∈ fs, q.2 = t := by
  unfold getF at h
  obtain ⟨q, e, rfl⟩ := Option.map_eq_some_iff.mp h
  exact ⟨q, List.mem_of_find?_eq_some e, rfl⟩
mutual
def Tm.fill (fs : Fl) : Tm → Tm
  | .var i => (getF fs i).getD (.var i)
  | .app f ts => .app f (Tm.fills fs ts)
def Tm.fills (fs : Fl) : List Tm → List Tm
  | [] => []
  | t :: ts => t.fill fs :: Tm.fills fs ts
end
theorem Tm.fills_map (fs : Fl) : ∀ ts : List Tm, Tm.fills fs ts = ts.map (Tm.fill fs)
  | [] => by unfold Tm.fills; rfl
  | t :: ts => by unfold Tm.fills; rw [Tm.fills_map fs ts]; rfl
theorem Tm.fill_var (fs : Fl) (i : Int) : (Tm.var i).fill fs = (getF fs i).getD (.var i) := by unfold Tm.fill; rfl
theorem Tm.fill_app (fs : Fl) (f : Str) (ts : List Tm) : (Tm.app f ts).fill fs = .app f (ts.map (Tm.fill fs)) := by unfold Tm.fill; rw [Tm.fills_map]
theorem Tm.fill_deep {fs : Fl} {n : Nat} (h : ∀ q ∈ fs, q.2.deep ≤ n) (t : Tm) : (t.fill fs).deep ≤ t.deep + n := by
  refine Tm.ind (P := fun t => (t.fill fs).deep ≤ t.deep + n) (fun i => ?_) (fun f ts ih => ?_) t
  · rw [Tm.fill_var]
    cases e : getF fs i with
    | none => rw [Option.getD_none, Tm.deep_var]; omega
    | some u =>
      obtain ⟨q, hq, rfl⟩ := getF_mem e
      have := h q hq
      rw [Option.getD_some]
      omega
  · rw [Tm.fill_app, Tm.deep_app, Tm.deep_app]
    have : Tm.deeps (ts.map (Tm.fill fs)) ≤ Tm.deeps ts + n := Tm.deeps_le fun u hu => by
      obtain ⟨v, hv, rfl⟩ := List.mem_map.mp hu
      have := ih v hv
      have := Tm.deep_mem hv
      omega
    omega
theorem Tm.fill_nm {p : Str → Prop} {fs : Fl} (h : ∀ q ∈ fs, q.2.Nm p) {t : Tm} (ht : t.Nm p) : (t.fill fs).Nm p := by
  induction ht with
  | @var i =>
    rw [Tm.fill_var]
    cases e : getF fs i with
    | none => exact .var
    | some u =>
      obtain ⟨q, hq, rfl⟩ := getF_mem e
      exact h q hq
  | app hf _ ih =>
    rw [Tm.fill_app]
    exact .app hf fun u hu => by
      obtain ⟨v, hv, rfl⟩ := List.mem_map.mp hu
      exact ih v hv
/-! what is behind a place of the row of all parts is the row of some terms -/
def Tm.parts : Tm → List Tm
  | .var _ => []
  | .app _ ts => ts
theorem Tm.pre_cons (t : Tm) : t.pre = t :: Tm.pres t.parts := by
  cases t with
  | var i => rw [Tm.pre_var]; unfold Tm.parts; rw [Tm.pres_nil]
  | app f ts => rw [Tm.pre_app]; rfl
theorem Tm.sub_pres : ∀ (A : List Tm) (us : List Tm) (u : Tm) (rest : List Tm), Tm.pres us = A ++ u :: rest → ∃ R, rest = Tm.pres u.parts ++ R
  | A, [], u, rest, h => by rw [Tm.pres_nil] at h; cases A <;> cases h
  | [], x :: us, u, rest, h => by
    rw [Tm.pres_cons, Tm.pre_cons] at h
    injection h with h1 h2
    subst h1
    exact ⟨_, h2.symm⟩
  | a :: A, x :: us, u, rest, h => by
    rw [Tm.pres_cons, Tm.pre_cons] at h
    injection h with h1 h2
    have h2 : Tm.pres x.parts ++ Tm.pres us = A ++ u :: rest := h2
    rw [← Tm.pres_append] at h2
    exact Tm.sub_pres A _ u rest h2
theorem Tm.pres_split : ∀ (ts st : List Tm) (R : List Tm), Tm.pres st = Tm.pres ts ++ R → ∃ st', st = ts ++ st' ∧ R = Tm.pres st'
  | [], st, R, h => by rw [Tm.pres_nil] at h; exact ⟨st, rfl, h.symm⟩
  | t :: ts, [], R, h => by rw [Tm.pres_nil, Tm.pres_cons, Tm.pre_cons] at h; cases h
  | t :: ts, u :: st, R, h => by
    have h0 := h
    rw [Tm.pres_cons, Tm.pres_cons, Tm.pre_cons, Tm.pre_cons] at h
    injection h with h1 h2
    subst h1
    rw [Tm.pres_cons, Tm.pres_cons, List.append_assoc] at h0
    have h3 := List.append_cancel_left h0
    obtain ⟨st', e1, e2⟩ := Tm.pres_split ts st R h3
    exact ⟨st', by rw [e1]; rfl, e2⟩
/-- the last part that waits, and the terms behind it -/
theorem Tm.back_step {t u : Tm} {A st : List Tm} (h : t.pre = (A ++ [u]) ++ Tm.pres st) : ∃ st', st = u.parts ++ st' ∧ t.pre = A ++ Tm.pres (u :: st') := by
  have h0 : Tm.pres [t] = A ++ u :: Tm.pres st := by rw [Tm.pres_cons, Tm.pres_nil, List.append_nil, h]; simp
  obtain ⟨R, hR⟩ := Tm.sub_pres A [t] u _ h0
  obtain ⟨st', e1, e2⟩ := Tm.pres_split _ _ _ hR
  refine ⟨st', e1, ?_⟩
  rw [h, Tm.pres_cons, Tm.pre_cons, e1, Tm.pres_append]
  simp
theorem Tm.back_end {t : Tm} {st : List Tm} (h : t.pre = Tm.pres st) : st = [t] := by
  have h0 : Tm.pres st = Tm.pres [t] ++ [] := by rw [← h, Tm.pres_cons, Tm.pres_nil]; simp
  obtain ⟨st', e1, e2⟩ := Tm.pres_split _ _ _ h0
  cases st' with
  | nil => simpa using e1
  | cons x st' => rw [Tm.pres_cons, Tm.pre_cons] at e2; cases e2
theorem flD_pl {fs : Fl} (h : ∀ q ∈ fs, q.2.Nm NameOk) : plK (flD fs) = true := by
  unfold plK flD
  rw [List.all_map, List.all_eq_true]
  intro q hq
  exact Tm.pl (h q hq)
theorem pl_name {x : Str} (h : NameOk x) : pl (.str x) = true := by unfold pl; exact h
theorem eqv_self {d : D} (h : pl d = true) : (toP d).eqv (toP d) = true := (eqv_pl h h).mpr rfl
def keysNd (fs : Fl) : Prop := (fs.map (·.1)).Nodup
theorem putF_nd {fs : Fl} {i : Int} {t : Tm} (h : keysNd fs) : keysNd (putF fs i t) := by
  unfold keysNd putF at *
  split
  · rw [List.map_map]
    have : ((fun p : Int × Tm => p.1) ∘ fun p => if p.1 = i then (p.1, t) else p) = fun p => p.1 := by
      funext p
      by_cases h : p.1 = i <;> simp [h]
    rw [this]
    exact h
  · rename_i hn
    rw [List.map_append, List.nodup_append]
    refine ⟨h, by simp, ?_⟩
    intro a ha b hb
    have : b = i := by simpa using hb
    subst this
    rintro rfl
    obtain ⟨q, hq, e⟩ := List.mem_map.mp ha
    exact hn (List.any_eq_true.mpr ⟨q, hq, by simp [e]⟩)
theorem getF_self {fs : Fl} (h : keysNd fs) {q : Int × Tm} (hq : q ∈ fs) : getF fs q.1 = some q.2 := by
  unfold getF
  induction fs with
  | nil => cases hq
  | cons p fs ih =>
    unfold keysNd at h
    rw [List.map_cons, List.nodup_cons] at h
    rw [List.find?_cons]
    rcases List.mem_cons.mp hq with rfl | hq
    · simp
    · have hne : p.1 ≠ q.1 := fun e => h.1 (by rw [e]; exact List.mem_map.mpr ⟨q, hq, rfl⟩)
      rw [decide_eq_false hne]
      exact ih h.2 hq
theorem sameD_self {fs : Fl} (h : keysNd fs) (hn : ∀ q ∈ fs, q.2.Nm NameOk) : sameD (flD fs) (flD fs) = true := by
  unfold sameD
  rw [Bool.and_eq_true]
  refine ⟨by simp, ?_⟩
  rw [List.all_eq_true]
  intro p hp
  unfold flD at hp
  obtain ⟨q, hq, rfl⟩ := List.mem_map.mp hp
  show (match valD (flD fs) (Sum.inl q.1) with
    | some v => PyData.eqv (toP q.2.d) (toP v)
    | none => false) = true
  rw [val_flD, getF_self h hq]
  exact eqv_self (Tm.pl (hn q hq))
theorem qNe_ss {M : Mem} {x y : Str} {Q : QD} (hx : NameOk x) (hy : NameOk y) (k : ∀ b : Bool, (b = true ↔ x ≠ y) → Q (.bl b) M) : qNe (.str x) (.str y) M Q :=
  qNe_pl (pl_name hx) (pl_name hy) (.inl (by unfold dep; omega)) fun b h => k b (by rw [h]; simp)
theorem zip_self {α : Type} (l : List α) : l.zip l = l.map fun x => (x, x) := by
  induction l with
  | nil => rfl
  | cons a l ih => rw [List.zip_cons_cons, ih]; rfl
theorem Tm.sizes_mul {ts : List Tm} {g : Tm → Tm} {n : Nat} (h : ∀ t ∈ ts, (g t).size ≤ t.size * n) : Tm.sizes (ts.map g) ≤ Tm.sizes ts * n := by
  induction ts with
  | nil => rw [List.map_nil, Tm.sizes_nil]; omega
  | cons t ts ih =>
    rw [List.map_cons, Tm.sizes_cons, Tm.sizes_cons, Nat.add_mul]
    have h1 := h t (List.mem_cons_self ..)
    have h2 := ih fun u hu => h u (List.mem_cons_of_mem _ hu)
    omega
theorem Tm.fill_size {fs : Fl} {n : Nat} (h1 : 1 ≤ n) (h : ∀ q ∈ fs, q.2.size ≤ n) (t : Tm) : (t.fill fs).size ≤ t.size * n := by
  refine Tm.ind (P := fun t => (t.fill fs).size ≤ t.size * n) (fun i => ?_) (fun f ts ih => ?_) t
  · rw [Tm.fill_var, Tm.size_var]
    cases e : getF fs i with
    | none => rw [Option.getD_none, Tm.size_var]; omega
    | some u =>
      obtain ⟨q, hq, rfl⟩ := getF_mem e
      have := h q hq
      rw [Option.getD_some]
      omega
  · rw [Tm.fill_app, Tm.size_app, Tm.size_app, Nat.add_mul]
    have := Tm.sizes_mul ih
    omega
end DL
namespace DL
open PySem L2
/-! ### instances -/
/-- the fields of an instance -/
def putN (f : Str) (v : D) : List (Str × D) → List (Str × D)
  | [] => [(f, v)]
  | (g, x) :: r => if g = f then (g, v) :: r else (g, x) :: putN f v r
section
variable {z : Zx} {K : PySem.W.Frag} {m : List Addr} {H : Hp} {M : Mem} {e o : Expr} {ta tv : DTE} {f : Str} {pos pos' apos : Pos} {C : Addr}
theorem RKV.lookup {k : Str} : ∀ {kvs : List (Str × D)} {ws : List (Str × V)}, RKV K m H kvs ws → (kvs.lookup k = none ∧ ws.lookup k = none) ∨ ∃ d v, kvs.lookup k = some d ∧ ws.lookup k = some v ∧ RD K m H d v
  | [], _, r => by unfold RKV at r; subst r; exact .inl ⟨rfl, rfl⟩
  | p :: kvs, _, r => by
    unfold RKV at r
    obtain ⟨v, s, rfl, r1, r2⟩ := r
    rw [List.lookup_cons, List.lookup_cons]
    cases h : k == p.1 with
    | true => exact .inr ⟨p.2, v, rfl, rfl, r1⟩
    | false => exact RKV.lookup r2
theorem RKV.putN {k : Str} {d : D} {v : V} (q : RD K m H d v) : ∀ {kvs : List (Str × D)} {ws : List (Str × V)}, RKV K m H kvs ws → RKV K m H (DL.putN k d kvs) (L2.putF k v ws)
  | [], _, r => by
    unfold RKV at r
    subst r
    exact ⟨v, [], rfl, q, rfl⟩
  | (g, x) :: kvs, _, r => by
    unfold RKV at r
    obtain ⟨w, s, rfl, r1, r2⟩ := r
    show RKV K m H (if g = k then (g, d) :: kvs else (g, x) :: DL.putN k d kvs) (if g = k then (g, v) :: s else (g, w) :: L2.putF k v s)
    by_cases h : g = k
    · rw [if_pos h, if_pos h]
      exact ⟨v, s, rfl, q, r2⟩
    · rw [if_neg h, if_neg h]
      exact ⟨w, _, rfl, r1, RKV.putN q r2⟩
theorem RM.ins {n : Nat} {v : V} {fs : List (Str × D)} (r : RM K m H M) (d : RD K m H (.loc n) v) (e : M[n]? = some (.ins C fs)) : ∃ a dx ws, v = .ref a ∧ m[n]? = some a ∧ H a = some (.ins C dx ws) ∧ RKV K m H fs ws := by
  obtain ⟨a, rfl, ea, dx, ws, e2, q⟩ := r.loc d e
  exact ⟨a, dx, ws, rfl, ea, e2, q⟩
def dFld (C : Addr) (f : Str) (ta : DTE) : DTE := fun r M Q => ta r M fun x M1 => match x with
  | .loc n => (match M1[n]? with
    | some (.ins C' fs) => C' = C ∧ (match fs.lookup f with
      | some d => Q d M1
      | none => False)
    | _ => False)
  | _ => False
theorem de_fld (c : Cls z.X.K C) (n : NoAttr z.X.K C f) (h : DE z e ta) (hb : attributeBase e f z.X.env (eval e z.X.env) = eval e z.X.env := by rfl) : DE z (.Attribute e f pos) (dFld C f ta) := by
  obtain ⟨wa, pa, la⟩ := h
  refine ⟨_, pe_fld pa hb, fun m r M σ H Q Qd s q t => ?_⟩
  refine la m r M σ H _ _ s q fun x M1 m1 v H1 q1 g1 r1 d1 => ?_
  split at q1
  · split at q1
    · rename_i C' fs em
      obtain ⟨rfl, q1⟩ := q1
      obtain ⟨a, dx, ws, rfl, ea, eh, rk⟩ := r1.ins d1 em
      rcases rk.lookup (k := f) with ⟨e1, e2⟩ | ⟨d, u, e1, e2, rd⟩
      · rw [e1] at q1; exact q1.elim
      · rw [e1] at q1
        exact ⟨a, C', dx, ws, u, rfl, eh, c, n, e2, t _ _ _ _ _ q1 g1 r1 rd⟩
    · exact q1.elim
  · exact q1.elim
def dFldS (C : Addr) (f : Str) (ta tv : DTE) : DTS := fun D r M => tv r M fun y M1 => ta r M1 fun x M2 => match x with
  | .loc n => (match M2[n]? with
    | some (.ins C' fs) => C' = C ∧ fs.length < 1000 ∧ D.nx r (M2.set n (.ins C (putN f y fs)))
    | _ => False)
  | _ => False
theorem ds_fld {value : Expr} (c : Cls z.X.K C) (n : NoAttr z.X.K C f) (ha : DE z o ta) (hv : DE z value tv) (hs : swapsWith value (some (.Attribute o f pos')) pos.line z.X.env = pure false := by rfl) : DS z (.Assign [.Attribute o f pos'] value pos) (dFldS C f ta tv) := by
  obtain ⟨wa, pa, la⟩ := ha
  obtain ⟨wv, pv, lv⟩ := hv
  refine ⟨_, ps_fld pa pv hs, fun m r M σ H E Dd s q l => ?_⟩
  refine lv m r M σ H _ _ s q fun y M1 m1 v H1 q1 g1 r1 d1 => la m1 r M1 σ H1 _ _ (s.grow g1 r1) q1 fun x M2 m2 w H2 q2 g2 r2 d2 => ?_
  split at q2
  · split at q2
    · rename_i C' fs em
      obtain ⟨rfl, hl, q2⟩ := q2
      obtain ⟨a, dx, ws, rfl, ea, eh, rk⟩ := r2.ins d2 em
      refine ⟨a, C', dx, ws, rfl, eh, c, n, by rw [rk.length]; exact hl, ?_⟩
      have g : Grow m2 H2 m2 (upd H2 a (.ins C' dx (L2.putF f v ws))) := Grow.put r2 ea (by rw [eh]; trivial)
      have r3 := r2.put ea (by rw [eh]; trivial) (o := .ins C' (putN f y fs)) ⟨dx, L2.putF f v ws, upd_same, (rk.putN (d1.grow g2)).mono g.pre g.tups⟩
      exact l.nx _ _ _ _ _ q2 (g1.trans (g2.trans g)) (s.grow (g1.trans (g2.trans g)) r3)
    · exact q2.elim
  · exact q2.elim
/-- a method that a class has -/
structure DMeth (P : Program) (w : World) (K : PySem.W.Frag) (mg : Str → Option Value) (base : Heap) (CX : CXT) (k : Nat) (C : Addr) (x : Str) (ps : List Str) (sp : DSp) : Prop where
  ex : ∃ f fd, FnOk P w K mg base CX k f fd ps (liftSp K sp) ∧ Meth K C x f ∧ Binds K fd ps [] ∧ Cls K C
structure DInit (P : Program) (w : World) (K : PySem.W.Frag) (mg : Str → Option Value) (base : Heap) (CX : CXT) (k : Nat) (C : Addr) (x : Str) (ps : List Str) (sp : DSp) : Prop where
  ex : ∃ f fd, FnOk P w K mg base CX k f fd ps (liftSp K sp) ∧ Mk K C f ∧ mg x = some (.ref C) ∧ Binds K fd ps []
def dMeth (C : Addr) (x : Str) (sp : DSp) (ta : DTE) (tas : DTA) : DTE := fun r M Q => ta r M fun y M1 => match y with
  | .loc n => (match M1[n]? with
    | some (.ins C' fs) => C' = C ∧ fs.lookup x = none ∧ tas r M1 fun ds M2 => sp (.loc n :: ds) M2 Q E0D
    | _ => False)
  | _ => False
theorem le_meth {C : Addr} {x : Str} {sp : DSp} {wo : TE} {wa : TA} {to : DTE} {tas : DTA} (lo : LE z wo to) (la : LA z wa tas) : LE z (tMeth C x (liftSp z.X.K sp) [] E0 wo wa) (dMeth C x sp to tas) := fun m r M σ H Q Qd s q t => by
  refine lo m r M σ H _ _ s q fun y M1 m1 v H1 q1 g1 r1 d1 => ?_
  split at q1
  · rename_i n
    split at q1
    · rename_i C' fs em
      obtain ⟨rfl, hl, q1⟩ := q1
      obtain ⟨a, dx, ws, rfl, ea, eh, rk⟩ := r1.ins d1 em
      have hw : ws.lookup x = none := by
        rcases rk.lookup (k := x) with ⟨_, e2⟩ | ⟨d, u, e1, _, _⟩
        · exact e2
        · rw [hl] at e1; cases e1
      refine ⟨a, dx, ws, rfl, eh, hw, ?_⟩
      refine la m1 r M1 σ H1 _ _ (s.grow g1 r1) q1 fun ds M2 m2 vs H2 q2 g2 r2 d2 => ?_
      rw [List.append_nil]
      exact ⟨m2, .loc n :: ds, M2, Qd, E0D, r2, by unfold RDs; exact ⟨_, _, rfl, d1.grow g2, d2⟩, q2, (t.grow g1).grow g2, fun _ _ _ _ h => h.elim⟩
    · exact q1.elim
  · exact q1.elim
theorem de_meth {CX : CXT} {k : Nat} {x : Str} {ps : List Str} {sp : DSp} {e : Expr} {es : List Expr} {to : DTE} {ta : DTA} {pl : Sem Bool} (F : DMeth z.X.prog z.X.w z.X.K z.X.mg z.X.base CX k C x ps sp) (hr : Room k z.X.A) (hx : Passes CX z.X E0) (ho : DE z o to) (ha : DA z (e :: es) ta)
    (hst : starEach (e :: es) z.X.env = (false, eval e z.X.env) :: starEach es z.X.env := by rfl) (hpl : (backTo pos (starEach es z.X.env)).any (·.1) = false := by rfl)
    (ht : eval (.Call (.Attribute o x apos) (e :: es) [] pos) z.X.env = (do
      let ov ← eval o z.X.env
      standAt apos.atName
      let (f, first) ← holding [ov] (getMethod ov x pl)
      callWith pos f first (backTo pos (starEach (e :: es) z.X.env)) (backToKw pos (keywordEach [] z.X.env))) := by rfl) : DE z (.Call (.Attribute o x apos) (e :: es) [] pos) (dMeth C x sp to ta) := by
  obtain ⟨f, fd, Fo, hm, hb, hc⟩ := F.ex
  obtain ⟨wo, po, lo⟩ := ho
  obtain ⟨wa, pa, la⟩ := ha
  exact ⟨_, pe_meth po hc hm Fo hr hb .nil hx pa hst hpl ht, le_meth lo la⟩
def dMake (C : Addr) (sp : DSp) (ta : DTA) : DTE := fun r M Q => ta r M fun ds M1 => sp (.loc M1.length :: ds) (M1 ++ [.ins C []]) (fun d M2 => d = .non ∧ Q (.loc M1.length) M2) E0D
theorem de_make {CX : CXT} {k : Nat} {x : Str} {ps : List Str} {sp : DSp} {e : Expr} {es : List Expr} {ta : DTA} {p : Pos} (F : DInit z.X.prog z.X.w z.X.K z.X.mg z.X.base CX k C x ps sp) (hr : Room (k + 1) z.X.A) (hx : Passes CX z.X E0) (ha : DA z (e :: es) ta) (hg : Gl z.X x := by rfl)
    (hdb : (x == ("__debug__" : Str)) = false := by decide) (he : starEach (e :: es) z.X.env = (false, eval e z.X.env) :: starEach es z.X.env := by rfl) (hpl : (backTo pos (starEach es z.X.env)).any (·.1) = false := by rfl) : DE z (.Call (.Name x p) (e :: es) [] pos) (dMake C sp ta) := by
  obtain ⟨f, fd, Fo, hk, hm, hb⟩ := F.ex
  obtain ⟨wa, pa, la⟩ := ha
  refine ⟨_, pe_make hk Fo hr hg hm hb .nil hx pa hdb he hpl, fun m r M σ H Q Qd s q t => ?_⟩
  refine la m r M σ H _ _ s q fun ds M1 m1 vs H1 q1 g1 r1 d1 a dx ha hdx hne => ?_
  have g2 : Grow m1 H1 m1 (upd H1 dx (.own a)) := Grow.new hdx
  have r2 : RM z.X.K m1 (upd H1 dx (.own a)) M1 := r1.new hdx
  have ha2 : upd H1 dx (.own a) a = none := by rw [upd_ne (fun h => hne h.symm)]; exact ha
  have g3 : Grow m1 (upd H1 dx (.own a)) (m1 ++ [a]) (upd (upd H1 dx (.own a)) a (.ins C dx [])) := Grow.cell ha2
  have r3 : RM z.X.K (m1 ++ [a]) (upd (upd H1 dx (.own a)) a (.ins C dx [])) (M1 ++ [.ins C []]) := r2.cell ha2 ⟨dx, [], upd_same, by unfold RKV; rfl⟩
  have hloc : RD z.X.K (m1 ++ [a]) (upd (upd H1 dx (.own a)) a (.ins C dx [])) (.loc M1.length) (.ref a) := by
    unfold RD
    exact ⟨a, rfl, by rw [← r1.len]; simp⟩
  rw [List.append_nil]
  refine ⟨m1 ++ [a], .loc M1.length :: ds, _, fun d M2 => d = .non ∧ Qd (.loc M1.length) M2, E0D, r3, by unfold RDs; exact ⟨_, _, rfl, hloc, (d1.grow g2).grow g3⟩, q1, fun d M2 m2 v H2 q2 g4 r4 d4 => ?_, fun _ _ _ _ h => h.elim⟩
  obtain ⟨rfl, q2⟩ := q2
  exact ⟨d4.non_, t _ _ _ _ _ q2 (g1.trans (g2.trans (g3.trans g4))) r4 (hloc.grow g4)⟩
end
section
variable {P : Program} {w : World} {K : PySem.W.Frag} {mg : Str → Option Value} {base : Heap}
theorem DMeth.ofD {x qual : Str} {C : Addr} {st : Stmt} {f : Addr} {fd : FuncData} {N ps : List Str} {k : Nat} {sp : DSp} (F : FnP K x qual st f fd) (hm : Meth K C x f) (hc : Cls K C) (hb : Binds K fd ps []) (S : FnScope N ps (defScope st)) (len : ∀ ds M Q E, sp ds M Q E → ds.length = ps.length)
    (body : ∃ t, (∀ (cdv : Value) (A : Around) (outer : List Env) (s : Shared) (H : Hp) (E : XK) (m0 : List Addr), Room k (A.deeper (PyProof.Rows.envOfC qual (defScope st) s.heap.objs.size f cdv)) →
        DSs ⟨(cxOf CX0 P w K mg base N qual (defScope st) f cdv A outer s H E).nox, m0, H⟩ (defBody st) t) ∧
      ∀ ds M Qd Ed, sp ds M Qd Ed → okM M.length M = true → t { nx := fun _ M' => Done M.length Qd .non M', rt := Done M.length Qd } (startD N ds) M) : DMeth P w K mg base CX0 (k + 1) C x ps sp :=
  ⟨f, fd, fnok_of F S len body, hm, hb, hc⟩
theorem DInit.ofD {x x0 qual : Str} {C : Addr} {st : Stmt} {f : Addr} {fd : FuncData} {N ps : List Str} {k : Nat} {sp : DSp} (F : FnP K x0 qual st f fd) (hk : Mk K C f) (hm : mg x = some (.ref C)) (hb : Binds K fd ps []) (S : FnScope N ps (defScope st)) (len : ∀ ds M Q E, sp ds M Q E → ds.length = ps.length)
    (body : ∃ t, (∀ (cdv : Value) (A : Around) (outer : List Env) (s : Shared) (H : Hp) (E : XK) (m0 : List Addr), Room k (A.deeper (PyProof.Rows.envOfC qual (defScope st) s.heap.objs.size f cdv)) →
        DSs ⟨(cxOf CX0 P w K mg base N qual (defScope st) f cdv A outer s H E).nox, m0, H⟩ (defBody st) t) ∧
      ∀ ds M Qd Ed, sp ds M Qd Ed → okM M.length M = true → t { nx := fun _ M' => Done M.length Qd .non M', rt := Done M.length Qd } (startD N ds) M) : DInit P w K mg base CX0 (k + 1) C x ps sp :=
  ⟨f, fd, fnok_of F S len body, hk, hm, hb⟩
end
end DL
namespace DL
open PySem L2
section
variable {z : Zx} {K : PySem.W.Frag} {m : List Addr} {H : Hp} {M : Mem}
theorem de_gintE {x : Str} {i : Int} {pos : Pos} (hm : ∃ t, z.X.mg x = some (.int i t)) (hg : Gl z.X x := by rfl) (hd : (x == ("__debug__" : Str)) = false := by decide) : DE z (.Name x pos) (dC (.int i)) := by
  obtain ⟨t, h⟩ := hm
  exact de_gint h hg hd
/-! ### enumerate -/
def enumD : Nat → List D → List D
  | _, [] => []
  | i, d :: ds => .tup [.int (i : Nat), d] :: enumD (i + 1) ds
theorem enumD_length : ∀ (i : Nat) (ds : List D), (enumD i ds).length = ds.length
  | _, [] => rfl
  | i, d :: ds => by unfold enumD; rw [List.length_cons, List.length_cons, enumD_length]
theorem enumD_get : ∀ {j : Nat} {ds : List D} {i : Nat} {d : D}, ds[i]? = some d → (enumD j ds)[i]? = some (.tup [.int ((j + i : Nat) : Int), d])
  | j, [], i, d, h => by cases h
  | j, e :: ds, 0, d, h => by cases h; rfl
  | j, e :: ds, i + 1, d, h => by
    unfold enumD
    rw [List.getElem?_cons_succ]
    rw [List.getElem?_cons_succ] at h
    have := enumD_get (j := j + 1) h
    rw [show j + 1 + i = j + (i + 1) by omega] at this
    exact this
theorem itok_enum {n : Nat} {a : Addr} {ds : List D} (ea : m[n]? = some a) : ItOk K m H ⟨enumD 0 ds, fun M => M[n]? = some (.lst ds)⟩ (Ite K a) where
  go := fun k m' M' H' hi g r hk => by
    have hi : k < ds.length := by have : k < (enumD 0 ds).length := hi; rwa [enumD_length] at this
    obtain ⟨vs, e, q⟩ := r.at hk (get_pre g.pre ea)
    obtain ⟨v, ev, _⟩ := q.get (List.getElem?_eq_getElem hi)
    exact ⟨vs, v, SqL.of e, ev⟩
  yld := fun k m' M' H' x H'' hi g r hk y => by
    have hi : k < ds.length := by have : k < (enumD 0 ds).length := hi; rwa [enumD_length] at this
    obtain ⟨T, x1, rfl, hT, rfl, y2⟩ := y
    obtain ⟨vs, e, q⟩ := r.at hk (get_pre g.pre ea)
    obtain ⟨v, ev, rv⟩ := q.get (List.getElem?_eq_getElem hi)
    have e2 := y2 vs (SqL.of e)
    rw [ev] at e2
    cases e2
    have hg := enumD_get (j := 0) (List.getElem?_eq_getElem hi)
    rw [Nat.zero_add] at hg
    refine ⟨_, hg, .inr ⟨T, _, hT, rfl⟩, RD.tup' (SqT.of upd_same) ?_⟩
    exact (RDs.cons' RD.int' (RDs.cons' rv RDs.nil')).grow (Grow.new hT)
  stop := fun m' M' H' g r hk => by
    obtain ⟨vs, e, q⟩ := r.at hk (get_pre g.pre ea)
    refine ⟨vs, SqL.of e, ?_⟩
    rw [q.length]
    show _ ≤ (enumD 0 ds).length
    rw [enumD_length]
    exact Nat.le_refl _
def dIEnum (ta : DTA) : DTI := fun r M R => ta r M fun xs M1 => match xs with
  | [.loc n] => (match M1[n]? with
    | some (.lst ds) => R ⟨enumD 0 ds, fun M => M[n]? = some (.lst ds)⟩ M1
    | _ => False)
  | _ => False
theorem di_enum {e : Expr} {ta : DTA} {p pos tpos : Pos} {elts : List Expr} {kk : Nat} (hm : z.X.mg "enumerate" = none) (h : DA z [e] ta) (hg : Gl z.X "enumerate" := by rfl) (hs : starEach [e] z.X.env = [(false, eval e z.X.env)] := by rfl) :
    DI z (.Tuple elts kk tpos) (.Call (.Name "enumerate" p) [e] [] pos) (dIEnum ta) := by
  obtain ⟨wa, pa, la⟩ := h
  refine ⟨_, pi_enum hg hm pa hs, fun m r M σ H R Rd s q t => la m r M σ H _ _ s q fun xs M1 m1 vs H1 q1 g1 r1 d1 => ?_⟩
  split at q1
  · split at q1
    · rename_i ds em
      obtain ⟨v, rfl, d⟩ := d1.one_
      obtain ⟨a, us, rfl, ea, s1, q⟩ := r1.lst d em
      exact ⟨a, us, rfl, SqL.of s1, t _ _ _ _ _ q1 g1 r1 (itok_enum ea)⟩
    · exact q1.elim
  · exact q1.elim
/-! ### d[k] op= e -/
def dAugK (td ti : DTE) (te : DTE) (rd : DR2) : DTS := fun D r M => td r M fun x M1 => ti r M1 fun y M2 => match x with
  | .loc n => (match M2[n]? with
    | some (.dic kvs) => (match keyD y with
      | some k => (match valD kvs k with
        | some v => te r M2 fun y2 M3 => rd v y2 M3 fun w M4 => (match M4[n]? with
          | some (.dic kvs') => kvs'.length < sizeLine ∧ D.nx r (M4.set n (.dic (putD kvs' k w)))
          | _ => False)
        | none => False)
      | none => False)
    | _ => False)
  | _ => False
theorem ds_augS {k : Nat} {op : Operator} {rd : DR2} {o i value : Expr} {td ti te : DTE} {tpos pos : Pos} (hr : Room k z.X.A) (hop : DOp z (inplaceOp op) rd) (ho : DE z o td) (hi : DE z i ti) (hv : DE z value te)
    (ha : ∀ ov iv new, augStore i ov iv new = (do holding [new, ov, iv] (setItem ov iv new); release [new, ov, iv] []; pure .next) := by exact fun _ _ _ => rfl) : DS z (.AugAssign (.Subscript o i tpos) op value pos) (dAugK td ti te rd) := by
  obtain ⟨wo, po, lo⟩ := ho
  obtain ⟨wi, pi, li⟩ := hi
  obtain ⟨wv, pv, lv⟩ := hv
  obtain ⟨rr, ro, lr⟩ := hop
  refine ⟨_, ps_daug (hu_of hr) po pi pv (fun pins s σ H x y v u Q I rx ry h => ro pins s σ H x y v u Q I rx ry h) ha, fun m r M σ H E Dd s q l => ?_⟩
  refine lo m r M σ H _ _ s q fun x M1 m1 w1 H1 q1 g1 r1 d1 => li m1 r M1 σ H1 _ _ (s.grow g1 r1) q1 fun y M2 m2 w2 H2 q2 g2 r2 d2 => ?_
  have d1' := d1.grow g2
  split at q2
  · rename_i n
    split at q2
    · rename_i kvs em
      obtain ⟨a, ws, rfl, ea, eh, qv⟩ := r2.dic d1' em
      split at q2
      · rename_i key ek
        have ex := key_ofD ek d2
        subst ex
        split at q2
        · rename_i d ed
          rcases qv.val (k := key) with ⟨e1, _⟩ | ⟨d', v, e1, e2, e3⟩
          · rw [ed] at e1; cases e1
          · rw [ed] at e1
            cases e1
            refine ⟨a, v, rfl, by rw [← e2]; exact DGet.k eh, ?_⟩
            have s2 := s.grow (g1.trans g2) r2
            refine lv m2 r M2 σ H2 _ _ s2 q2 fun y2 M3 m3 u H3 q3 g3 r3 d3 => ?_
            refine lr m3 M3 H3 v u _ _ _ _ r3 (e3.grow g3) d3 q3 fun w M4 m4 u4 H4 q4 g4 r4 d4 => ?_
            split at q4
            · rename_i kvs' em4
              obtain ⟨a', ws', e5, ea4, eh4, qv4⟩ := r4.dic (d1'.grow (g3.trans g4)) em4
              cases e5
              have g5 : Grow m4 H4 m4 (upd H4 a (.dK (putK ws' key u4))) := Grow.put r4 ea4 (by rw [eh4]; trivial)
              refine ⟨_, DPut.k eh4 (by rw [qv4.length]; exact q4.1), ?_⟩
              have gg := g1.trans (g2.trans (g3.trans (g4.trans g5)))
              exact l.nx _ _ _ _ _ q4.2 gg (s.grow gg (r4.put ea4 (by rw [eh4]; trivial) (o := .dic (putD kvs' key w)) ⟨_, upd_same, (qv4.put d4).mono g5.pre g5.tups⟩))
            · exact q4.elim
        · exact q2.elim
      · exact q2.elim
    · exact q2.elim
  · exact q2.elim
end
end DL
namespace DL
open PySem L2
theorem qIn_dic {M : Mem} {n : Nat} {x : D} {k : Key} {kvs : List (Key × D)} {Q : QD} (e : M[n]? = some (.dic kvs)) (ek : keyD x = some k) (q : Q (.bl (valD kvs k).isSome) M) : qIn x (.loc n) M Q := by
  unfold qIn inQ seqD
  simp only [e, ek]
  exact q
/-! ### an order -/
def rankD (i : Nat) : List Sg → List (Key × D)
  | [] => []
  | s :: ss => (.inr s.nm, .int (i : Nat)) :: rankD (i + 1) ss
def arD (ss : List Sg) : List (Key × D) := ss.map fun s => (.inr s.nm, .int s.ar)
def wtD (ss : List Sg) : List (Key × D) := ss.map fun s => (.inr s.nm, .int s.wt)
/-- the place of a name among the signs -/
def rankOf (f : Str) : List Sg → Nat
  | [] => 0
  | s :: ss => if s.nm = f then 0 else rankOf f ss + 1
def wtOf (f : Str) : List Sg → Nat
  | [] => 0
  | s :: ss => if s.nm = f then s.wt else wtOf f ss
def arOf (f : Str) : List Sg → Nat
  | [] => 0
  | s :: ss => if s.nm = f then s.ar else arOf f ss
theorem rankD_val {f : Str} : ∀ {ss : List Sg} (i : Nat), f ∈ ss.map Sg.nm → valD (rankD i ss) (Sum.inr f) = some (.int ((i + rankOf f ss : Nat) : Int))
  | [], _, h => by cases h
  | s :: ss, i, h => by
    unfold rankD rankOf
    by_cases e : s.nm = f
    · simp [valD, List.find?_cons, e]
    · rw [if_neg e]
      have hf : f ∈ ss.map Sg.nm := by
        rw [List.map_cons] at h
        rcases List.mem_cons.mp h with h | h
        · exact absurd h.symm e
        · exact h
      have := rankD_val (i + 1) hf
      rw [show i + (rankOf f ss + 1) = i + 1 + rankOf f ss by omega, ← this]
      simp [valD, List.find?_cons, e]
theorem wtD_val {f : Str} : ∀ {ss : List Sg}, f ∈ ss.map Sg.nm → valD (wtD ss) (Sum.inr f) = some (.int (wtOf f ss : Nat))
  | [], h => by cases h
  | s :: ss, h => by
    unfold wtD wtOf
    rw [List.map_cons]
    by_cases e : s.nm = f
    · simp [valD, List.find?_cons, e]
    · rw [if_neg e]
      have hf : f ∈ ss.map Sg.nm := by
        rw [List.map_cons] at h
        rcases List.mem_cons.mp h with h | h
        · exact absurd h.symm e
        · exact h
      rw [← wtD_val hf]
      simp [valD, wtD, List.find?_cons, e]
theorem arD_val {f : Str} : ∀ {ss : List Sg}, f ∈ ss.map Sg.nm → valD (arD ss) (Sum.inr f) = some (.int (arOf f ss : Nat))
  | [], h => by cases h
  | s :: ss, h => by
    unfold arD arOf
    rw [List.map_cons]
    by_cases e : s.nm = f
    · simp [valD, List.find?_cons, e]
    · rw [if_neg e]
      have hf : f ∈ ss.map Sg.nm := by
        rw [List.map_cons] at h
        rcases List.mem_cons.mp h with h | h
        · exact absurd h.symm e
        · exact h
      rw [← arD_val hf]
      simp [valD, arD, List.find?_cons, e]
theorem putD_new {kvs : List (Key × D)} {k : Key} {v : D} (h : ∀ p ∈ kvs, p.1 ≠ k) : putD kvs k v = kvs ++ [(k, v)] := by
  unfold putD
  rw [if_neg]
  intro h'
  obtain ⟨p, hp, e⟩ := List.any_eq_true.mp h'
  exact h p hp (by simpa using e)
theorem valD_none {kvs : List (Key × D)} {k : Key} (h : ∀ p ∈ kvs, p.1 ≠ k) : valD kvs k = none := by
  unfold valD
  rw [List.find?_eq_none.mpr fun p hp => by simpa using h p hp]
  rfl
theorem rankD_append (i : Nat) : ∀ (as bs : List Sg), rankD i (as ++ bs) = rankD i as ++ rankD (i + as.length) bs
  | [], bs => by simp [rankD]
  | a :: as, bs => by
    rw [List.cons_append]
    unfold rankD
    rw [rankD_append (i + 1) as bs, List.length_cons, show i + 1 + as.length = i + (as.length + 1) by omega]
    cases bs <;> simp [rankD]
theorem rankD_keys {i : Nat} : ∀ {ss : List Sg} {p : Key × D}, p ∈ rankD i ss → ∃ s ∈ ss, p.1 = Sum.inr s.nm
  | [], p, h => by cases h
  | s :: ss, p, h => by
    unfold rankD at h
    rcases List.mem_cons.mp h with rfl | h
    · exact ⟨s, List.mem_cons_self .., rfl⟩
    · obtain ⟨s', h1, h2⟩ := rankD_keys h
      exact ⟨s', List.mem_cons_of_mem _ h1, h2⟩
theorem rankD_length (i : Nat) : ∀ ss : List Sg, (rankD i ss).length = ss.length
  | [] => rfl
  | s :: ss => by unfold rankD; rw [List.length_cons, List.length_cons, rankD_length]
/-! weight -/
mutual
def Tm.wt (ss : List Sg) : Tm → Nat
  | .var _ => 1
  | .app f ts => wtOf f ss + Tm.wts ss ts
def Tm.wts (ss : List Sg) : List Tm → Nat
  | [] => 0
  | t :: ts => t.wt ss + Tm.wts ss ts
end
theorem Tm.wt_var (ss : List Sg) (i : Int) : (Tm.var i).wt ss = 1 := by unfold Tm.wt; rfl
theorem Tm.wt_app (ss : List Sg) (f : Str) (ts : List Tm) : (Tm.app f ts).wt ss = wtOf f ss + Tm.wts ss ts := by unfold Tm.wt; rfl
theorem Tm.wts_nil (ss : List Sg) : Tm.wts ss [] = 0 := by unfold Tm.wts; rfl
theorem Tm.wts_cons (ss : List Sg) (t : Tm) (ts : List Tm) : Tm.wts ss (t :: ts) = t.wt ss + Tm.wts ss ts := by rw [Tm.wts]
def ownWt (ss : List Sg) : Tm → Nat
  | .var _ => 1
  | .app f _ => wtOf f ss
theorem Tm.wts_pres (ss : List Sg) (ts : List Tm) (h : ∀ t ∈ ts, (t.pre.map (ownWt ss)).sum = t.wt ss) : ((Tm.pres ts).map (ownWt ss)).sum = Tm.wts ss ts := by
  induction ts with
  | nil => rw [Tm.pres_nil, Tm.wts_nil]; rfl
  | cons t ts ih =>
    rw [Tm.pres_cons, Tm.wts_cons, List.map_append, List.sum_append, h t (List.mem_cons_self ..), ih fun u hu => h u (List.mem_cons_of_mem _ hu)]
theorem Tm.wt_pre (ss : List Sg) : ∀ t : Tm, (t.pre.map (ownWt ss)).sum = t.wt ss := by
  refine Tm.ind (fun i => ?_) fun f ts ih => ?_
  · rw [Tm.pre_var, Tm.wt_var]; rfl
  · rw [Tm.pre_app, Tm.wt_app, List.map_cons, List.sum_cons, Tm.wts_pres ss ts ih]; rfl
/-! greater -/
def covers (s t : Tm) : Bool := t.flat.all fun b => t.flat.count b ≤ s.flat.count b
noncomputable instance : DecidableEq Tm := fun _ _ => Classical.propDecidable _
mutual
noncomputable def Tm.gt (ss : List Sg) : Tm → Tm → Bool
  | .var _, _ => false
  | .app f ts, .var i => covers (.app f ts) (.var i) && decide ((Tm.app f ts).wt ss > (Tm.var i).wt ss)
  | .app f ts, .app g us => covers (.app f ts) (.app g us) && (if (Tm.app f ts).wt ss = (Tm.app g us).wt ss then (if f = g then Tm.gts ss ts us else decide (rankOf f ss > rankOf g ss)) else decide ((Tm.app f ts).wt ss > (Tm.app g us).wt ss))
noncomputable def Tm.gts (ss : List Sg) : List Tm → List Tm → Bool
  | t :: ts, us => (match us with
    | [] => false
    | u :: us => if t = u then Tm.gts ss ts us else Tm.gt ss t u)
  | [], _ => false
end
end DL
namespace DL
open PySem L2
theorem az_le {c : Nat} (h : 97 ≤ c ∧ c ≤ 122) : (Str.cps (Str.ofString "a")).toList ≤ [c] ∧ [c] ≤ (Str.cps (Str.ofString "z")).toList := by
  have e1 : (Str.cps (Str.ofString "a")).toList = [97] := by decide +kernel
  have e2 : (Str.cps (Str.ofString "z")).toList = [122] := by decide +kernel
  rw [e1, e2]
  constructor
  · rcases Nat.lt_or_eq_of_le h.1 with h' | h'
    · exact List.le_of_lt (List.Lex.rel h')
    · rw [h']; exact List.le_refl _
  · rcases Nat.lt_or_eq_of_le h.2 with h' | h'
    · exact List.le_of_lt (List.Lex.rel h')
    · rw [h']; exact List.le_refl _
theorem GoodName.len {x : Str} (h : GoodName x) : 1 ≤ x.length ∧ x.length ≤ 8 := by
  obtain ⟨h1, h2, _⟩ := h
  unfold tlS at h1 h2
  rw [Array.length_toList] at h1 h2
  exact ⟨h1, h2⟩
end DL
namespace DL
open PySem L2
theorem putN_1 {x : D} : putN ("_ranks" : Str) x [] = [(("_ranks" : Str), x)] := rfl
theorem putN_2 {x y : D} : putN ("_parts" : Str) y [(("_ranks" : Str), x)] = [(("_ranks" : Str), x), (("_parts" : Str), y)] := by
  have h : ("_ranks" : Str) ≠ "_parts" := by decide +kernel
  unfold putN
  rw [if_neg h]
  rfl
theorem putN_3 {x y v : D} : putN ("_weights" : Str) v [(("_ranks" : Str), x), (("_parts" : Str), y)] = [(("_ranks" : Str), x), (("_parts" : Str), y), (("_weights" : Str), v)] := by
  have h : ("_ranks" : Str) ≠ "_weights" := by decide +kernel
  have h2 : ("_parts" : Str) ≠ "_weights" := by decide +kernel
  unfold putN
  rw [if_neg h]
  unfold putN
  rw [if_neg h2]
  rfl
def ordF (a b c : D) : List (Str × D) := [(("_ranks" : Str), a), (("_parts" : Str), b), (("_weights" : Str), c)]
theorem ordF_1 {a b c : D} : (ordF a b c).lookup ("_ranks" : Str) = some a := by
  unfold ordF
  rw [List.lookup_cons, show (("_ranks" : Str) == "_ranks") = true by decide +kernel]
theorem ordF_2 {a b c : D} : (ordF a b c).lookup ("_parts" : Str) = some b := by
  unfold ordF
  rw [List.lookup_cons, show (("_parts" : Str) == "_ranks") = false by decide +kernel]
  show List.lookup ("_parts" : Str) [(("_parts" : Str), b), (("_weights" : Str), c)] = _
  rw [List.lookup_cons, show (("_parts" : Str) == "_parts") = true by decide +kernel]
theorem ordF_3 {a b c : D} : (ordF a b c).lookup ("_weights" : Str) = some c := by
  unfold ordF
  rw [List.lookup_cons, show (("_weights" : Str) == "_ranks") = false by decide +kernel]
  show List.lookup ("_weights" : Str) [(("_parts" : Str), b), (("_weights" : Str), c)] = _
  rw [List.lookup_cons, show (("_weights" : Str) == "_parts") = false by decide +kernel]
  show List.lookup ("_weights" : Str) [(("_weights" : Str), c)] = _
  rw [List.lookup_cons, show (("_weights" : Str) == "_weights") = true by decide +kernel]
theorem ordF_e {a b c : D} : ([(("_ranks" : Str), a), (("_parts" : Str), b), (("_weights" : Str), c)] : List (Str × D)) = ordF a b c := rfl
theorem ordF_len {a b c : D} : (ordF a b c).length = 3 := rfl
theorem ordF_no {a b c : D} {m : Str} (h1 : (m == ("_ranks" : Str)) = false) (h2 : (m == ("_parts" : Str)) = false) (h3 : (m == ("_weights" : Str)) = false) : (ordF a b c).lookup m = none := by
  unfold ordF
  rw [List.lookup_cons, h1]
  show List.lookup m [(("_parts" : Str), b), (("_weights" : Str), c)] = _
  rw [List.lookup_cons, h2]
  show List.lookup m [(("_weights" : Str), c)] = _
  rw [List.lookup_cons, h3]
  rfl
end DL
namespace DL
open PySem L2
noncomputable def unlike : List Tm → List Tm → Option (Tm × Tm)
  | t :: ts, u :: us => if t = u then unlike ts us else some (t, u)
  | _, _ => none
end DL
namespace DL
open PySem L2
theorem valD_putD {kvs : List (Key × D)} {k k' : Key} {v : D} : valD (putD kvs k v) k' = if k = k' then some v else valD kvs k' := by
  unfold putD
  split
  · rename_i h
    induction kvs with
    | nil => cases h
    | cons p kvs ih =>
      rw [List.map_cons]
      by_cases hp : p.1 = k
      · by_cases hk : k = k'
        · simp [valD, List.find?_cons, hp, hk]
        · have ih' : valD (kvs.map fun kv => if kv.1 = k then (kv.1, v) else kv) k' = valD kvs k' := by
            clear ih h
            induction kvs with
            | nil => rfl
            | cons q kvs ihq =>
              rw [List.map_cons]
              by_cases hq : q.1 = k
              · have : ¬ k = k' := hk
                simp only [valD, List.find?_cons, hq, if_true, decide_eq_false this] at ihq ⊢
                exact ihq
              · rw [if_neg hq]
                by_cases hqk : q.1 = k'
                · simp [valD, List.find?_cons, hqk]
                · simp only [valD, List.find?_cons, decide_eq_false hqk] at ihq ⊢
                  exact ihq
          simp only [valD, List.find?_cons, hp, if_true, if_neg hk, decide_eq_false hk] at ih' ⊢
          exact ih'
      · rw [List.any_cons, decide_eq_false hp, Bool.false_or] at h
        have ih' := ih h
        rw [if_neg hp]
        by_cases hk' : p.1 = k'
        · have : ¬ k = k' := fun e => hp (by rw [hk', e])
          simp [valD, List.find?_cons, hk', this]
        · simp only [valD, List.find?_cons, decide_eq_false hk'] at ih' ⊢
          exact ih'
  · rename_i h
    by_cases hk : k = k'
    · subst hk
      rw [if_pos rfl]
      have : ∀ p ∈ kvs, ¬ decide (p.1 = k) = true := fun p hp e => h (List.any_eq_true.mpr ⟨p, hp, e⟩)
      unfold valD
      rw [List.find?_append, List.find?_eq_none.mpr this]
      simp
    · rw [if_neg hk]
      unfold valD
      rw [List.find?_append]
      cases e : kvs.find? (fun kv => decide (kv.1 = k')) with
      | none => simp [hk]
      | some x => simp
theorem putD_len (kvs : List (Key × D)) (k : Key) (v : D) : (putD kvs k v).length ≤ kvs.length + 1 := by
  unfold putD
  split <;> simp
/-- numbers by numbers, none where it is nought or not there -/
def Cnt (kvs : List (Key × D)) (f : Int → Int) : Prop := ∀ i, (valD kvs (Sum.inl i)).getD (D.int 0) = .int (f i)
theorem Cnt.put {kvs : List (Key × D)} {f g : Int → Int} {i v : Int} (h : Cnt kvs f) (hg : ∀ j, g j = if i = j then v else f j) : Cnt (putD kvs (Sum.inl i) (.int v)) g := by
  intro j
  rw [valD_putD, hg]
  by_cases e : i = j
  · subst e; simp
  · have : ¬ (Sum.inl i : Key) = Sum.inl j := fun h => e (by injection h)
    rw [if_neg this, if_neg e]
    exact h j
theorem Cnt.some {kvs : List (Key × D)} {f : Int → Int} {i : Int} (h : Cnt kvs f) (hf : f i ≠ 0) : valD kvs (Sum.inl i) = some (.int (f i)) := by
  have := h i
  cases e : valD kvs (Sum.inl i) with
  | none =>
    rw [e] at this
    have h2 : D.int 0 = .int (f i) := this
    injection h2 with h2
    exact absurd h2.symm hf
  | some d => rw [e] at this; exact congrArg _ this
theorem Tm.varsOf_snoc_var (ps : List Tm) (i : Int) : Tm.varsOf (ps ++ [.var i]) = Tm.varsOf ps ++ [i] := by
  unfold Tm.varsOf
  rw [List.filterMap_append]
  rfl
theorem Tm.varsOf_snoc_app (ps : List Tm) (f : Str) (ts : List Tm) : Tm.varsOf (ps ++ [.app f ts]) = Tm.varsOf ps := by
  unfold Tm.varsOf
  rw [List.filterMap_append]
  simp
theorem count_snoc (l : List Int) (i j : Int) : (l ++ [i]).count j = l.count j + if i = j then 1 else 0 := by
  rw [List.count_append, List.count_singleton]
  by_cases h : i = j
  · simp [h]
  · have : ¬ (i == j) = true := by simpa using h
    simp [h]
end DL
namespace DL
open PySem L2
theorem unlike_cons (a b : Tm) (as bs : List Tm) : unlike (a :: as) (b :: bs) = if a = b then unlike as bs else some (a, b) := by rw [unlike]
theorem Tm.pres_nm {p : Str → Prop} {ts : List Tm} (h : ∀ t ∈ ts, ∀ u ∈ t.pre, u.Nm p) : ∀ u ∈ Tm.pres ts, u.Nm p := by
  induction ts with
  | nil => rw [Tm.pres_nil]; intro u hu; cases hu
  | cons t ts ih =>
    rw [Tm.pres_cons]
    intro u hu
    rcases List.mem_append.mp hu with hu | hu
    · exact h t (List.mem_cons_self ..) u hu
    · exact ih (fun x hx => h x (List.mem_cons_of_mem _ hx)) u hu
theorem Tm.pre_nm {p : Str → Prop} {t : Tm} (h : t.Nm p) : ∀ u ∈ t.pre, u.Nm p := by
  induction h with
  | var => rw [Tm.pre_var]; intro u hu; rw [List.mem_singleton.mp hu]; exact .var
  | app hf hts ih =>
    rw [Tm.pre_app]
    intro u hu
    rcases List.mem_cons.mp hu with rfl | hu
    · exact .app hf hts
    · exact Tm.pres_nm ih u hu
end DL
namespace DL
theorem sum_cast {α : Type} (l : List α) (f : α → Nat) : (((l.map f).sum : Nat) : Int) = (l.map fun x => ((f x : Nat) : Int)).sum := by
  induction l with
  | nil => rfl
  | cons a l ih => rw [List.map_cons, List.sum_cons, List.map_cons, List.sum_cons, ← ih]; omega
end DL
namespace DL
open PySem L2
structure Fit (ss : List Sg) (t : Tm) : Prop where
  nm : t.Nm (fun f => f ∈ ss.map Sg.nm)
  ok : t.Nm NameOk
  deep : t.deep ≤ 199
  size : t.size ≤ 1000
theorem Tm.Nm.arg {p : Str → Prop} {f : Str} {ts : List Tm} (h : (Tm.app f ts).Nm p) : ∀ t ∈ ts, t.Nm p := by
  cases h with
  | app _ h => exact h
theorem Tm.Nm.hd {p : Str → Prop} {f : Str} {ts : List Tm} (h : (Tm.app f ts).Nm p) : p f := by
  cases h with
  | app h _ => exact h
theorem Fit.arg {ss : List Sg} {f : Str} {ts : List Tm} (h : Fit ss (.app f ts)) {t : Tm} (ht : t ∈ ts) : Fit ss t := by
  have h3 := h.deep
  have h4 := h.size
  rw [Tm.deep_app] at h3
  rw [Tm.size_app] at h4
  have := Tm.deep_mem ht
  have := Tm.size_mem ht
  exact ⟨h.nm.arg t ht, h.ok.arg t ht, by omega, by omega⟩
theorem wtOf_pos {ss : List Sg} (hw : ∀ s ∈ ss, 1 ≤ s.wt) {f : Str} (h : f ∈ ss.map Sg.nm) : 1 ≤ wtOf f ss := by
  induction ss with
  | nil => cases h
  | cons s ss ih =>
    unfold wtOf
    by_cases e : s.nm = f
    · rw [if_pos e]; exact hw s (List.mem_cons_self ..)
    · rw [if_neg e]
      rw [List.map_cons] at h
      rcases List.mem_cons.mp h with h | h
      · exact absurd h.symm e
      · exact ih (fun x hx => hw x (List.mem_cons_of_mem _ hx)) h
theorem Tm.wt_pos {ss : List Sg} (hw : ∀ s ∈ ss, 1 ≤ s.wt) {t : Tm} (h : t.Nm (fun f => f ∈ ss.map Sg.nm)) : 1 ≤ t.wt ss := by
  cases h with
  | var => rw [Tm.wt_var]; omega
  | app h _ => rw [Tm.wt_app]; have := wtOf_pos hw h; omega
theorem Tm.gt_var (ss : List Sg) (i : Int) (t : Tm) : Tm.gt ss (.var i) t = false := by rw [Tm.gt]
theorem Tm.gt_av (ss : List Sg) (f : Str) (ts : List Tm) (i : Int) : Tm.gt ss (.app f ts) (.var i) = (covers (.app f ts) (.var i) && decide ((Tm.app f ts).wt ss > (Tm.var i).wt ss)) := by rw [Tm.gt]
theorem Tm.gt_aa (ss : List Sg) (f g : Str) (ts us : List Tm) : Tm.gt ss (.app f ts) (.app g us) = (covers (.app f ts) (.app g us) && (if (Tm.app f ts).wt ss = (Tm.app g us).wt ss then (if f = g then Tm.gts ss ts us else decide (rankOf f ss > rankOf g ss)) else decide ((Tm.app f ts).wt ss > (Tm.app g us).wt ss))) := by rw [Tm.gt]
theorem Tm.gt_wt {ss : List Sg} (hw : ∀ s ∈ ss, 1 ≤ s.wt) {s t : Tm} (hs : s.Nm (fun f => f ∈ ss.map Sg.nm)) (ht : t.Nm (fun f => f ∈ ss.map Sg.nm)) (hc : covers s t = true) (h : s.wt ss ≠ t.wt ss) : Tm.gt ss s t = decide (s.wt ss > t.wt ss) := by
  cases s with
  | var i =>
    have := Tm.wt_pos hw ht
    rw [Tm.gt_var, decide_eq_false]
    rw [Tm.wt_var]; omega
  | app f ts =>
    cases t with
    | var j => rw [Tm.gt_av, hc, Bool.true_and]
    | app g us => rw [Tm.gt_aa, hc, Bool.true_and, if_neg h]
theorem Tm.gt_nc {ss : List Sg} {s t : Tm} (hc : covers s t = false) : Tm.gt ss s t = false := by
  cases s with
  | var i => rw [Tm.gt_var]
  | app f ts =>
    cases t with
    | var j => rw [Tm.gt_av, hc, Bool.false_and]
    | app g us => rw [Tm.gt_aa, hc, Bool.false_and]
theorem Tm.gts_unlike (ss : List Sg) : ∀ ts us : List Tm, Tm.gts ss ts us = match unlike ts us with
    | some p => Tm.gt ss p.1 p.2
    | none => false
  | [], us => by rw [Tm.gts]; unfold unlike; cases us <;> rfl
  | t :: ts, [] => by rw [Tm.gts]; unfold unlike; rfl
  | t :: ts, u :: us => by
    rw [Tm.gts, unlike_cons]
    by_cases e : t = u
    · simp only [if_pos e]; exact Tm.gts_unlike ss ts us
    · simp only [if_neg e]
theorem unlike_mem : ∀ {ts us : List Tm} {p : Tm × Tm}, unlike ts us = some p → p.1 ∈ ts ∧ p.2 ∈ us
  | [], us, p, h => by unfold unlike at h; cases us <;> cases h
  | t :: ts, [], p, h => by unfold unlike at h; cases h
  | t :: ts, u :: us, p, h => by
    rw [unlike_cons] at h
    by_cases e : t = u
    · rw [if_pos e] at h
      have := unlike_mem h
      exact ⟨List.mem_cons_of_mem _ this.1, List.mem_cons_of_mem _ this.2⟩
    · rw [if_neg e] at h
      cases h
      exact ⟨List.mem_cons_self .., List.mem_cons_self ..⟩
end DL
namespace DL
open PySem L2
/-! ### the order of terms -/
theorem covers_iff {s t : Tm} : covers s t = true ↔ ∀ b, t.flat.count b ≤ s.flat.count b := by
  unfold covers
  rw [List.all_eq_true]
  constructor
  · intro h b
    by_cases hb : b ∈ t.flat
    · exact of_decide_eq_true (h b hb)
    · rw [List.count_eq_zero.mpr hb]; omega
  · intro h b _
    exact decide_eq_true (h b)
theorem covers_refl (s : Tm) : covers s s = true := covers_iff.mpr fun _ => Nat.le_refl _
theorem covers_trans {s t u : Tm} (h : covers s t = true) (h' : covers t u = true) : covers s u = true :=
  covers_iff.mpr fun b => Nat.le_trans (covers_iff.mp h' b) (covers_iff.mp h b)
theorem Tm.gt_covers {ss : List Sg} {s t : Tm} (h : Tm.gt ss s t = true) : covers s t = true := by
  cases hc : covers s t with
  | true => rfl
  | false => rw [Tm.gt_nc hc] at h; cases h
theorem Tm.gt_ge {ss : List Sg} {s t : Tm} (h : Tm.gt ss s t = true) : t.wt ss ≤ s.wt ss := by
  cases s with
  | var i => rw [Tm.gt_var] at h; cases h
  | app f ts =>
    cases t with
    | var j =>
      rw [Tm.gt_av, Bool.and_eq_true] at h
      have := of_decide_eq_true h.2
      omega
    | app g us =>
      rw [Tm.gt_aa, Bool.and_eq_true] at h
      by_cases hw : (Tm.app f ts).wt ss = (Tm.app g us).wt ss
      · omega
      · rw [if_neg hw] at h
        have := of_decide_eq_true h.2
        omega
theorem unlike_self : ∀ ts : List Tm, unlike ts ts = none
  | [] => by unfold unlike; rfl
  | t :: ts => by rw [unlike_cons, if_pos rfl]; exact unlike_self ts
theorem Tm.gt_irr (ss : List Sg) (s : Tm) : Tm.gt ss s s = false := by
  cases s with
  | var i => rw [Tm.gt_var]
  | app f ts => rw [Tm.gt_aa, if_pos rfl, if_pos rfl, Tm.gts_unlike, unlike_self]; simp
/-- all names stand among the signs with just so many parts -/
inductive Tm.Sized (ss : List Sg) : Tm → Prop
  | var {i : Int} : Tm.Sized ss (.var i)
  | app {f : Str} {ts : List Tm} : ts.length = arOf f ss → (∀ t ∈ ts, Tm.Sized ss t) → Tm.Sized ss (.app f ts)
theorem Tm.Sized.arg {ss : List Sg} {f : Str} {ts : List Tm} (h : (Tm.app f ts).Sized ss) : ∀ t ∈ ts, t.Sized ss := by
  cases h with
  | app _ h => exact h
theorem Tm.Sized.len {ss : List Sg} {f : Str} {ts : List Tm} (h : (Tm.app f ts).Sized ss) : ts.length = arOf f ss := by
  cases h with
  | app h _ => exact h
/-- the first unlike parts of three rows -/
theorem unlike_three : ∀ {as bs cs : List Tm} {p q : Tm × Tm}, as.length = bs.length → bs.length = cs.length → unlike as bs = some p → unlike bs cs = some q →
    (unlike as cs = some (p.1, q.2) ∧ p.2 = q.1) ∨ unlike as cs = some p ∨ unlike as cs = some q ∨ (p.2 = q.1 ∧ p.1 = q.2)
  | [], bs, cs, p, q, _, _, h, _ => by unfold unlike at h; cases bs <;> cases h
  | a :: as, [], cs, p, q, _, _, h, _ => by unfold unlike at h; cases h
  | a :: as, b :: bs, [], p, q, _, _, _, h => by unfold unlike at h; cases h
  | a :: as, b :: bs, c :: cs, p, q, h1, h2, h, h' => by
    rw [unlike_cons] at h h' ⊢
    by_cases e : a = b
    · rw [if_pos e] at h
      by_cases e' : b = c
      · rw [if_pos e'] at h'
        rw [if_pos (e.trans e')]
        exact unlike_three (by simpa using h1) (by simpa using h2) h h'
      · rw [if_neg e'] at h'
        have : a ≠ c := fun x => e' (by rw [← e, x])
        rw [if_neg this, e]
        exact .inr (.inr (.inl h'))
    · rw [if_neg e] at h
      by_cases e' : b = c
      · rw [← e', if_neg e]
        exact .inr (.inl h)
      · rw [if_neg e'] at h'
        cases h
        cases h'
        by_cases ec : a = c
        · exact .inr (.inr (.inr ⟨rfl, ec⟩))
        · rw [if_neg ec]
          exact .inl ⟨rfl, rfl⟩
theorem Tm.gt_trans {ss : List Sg} : ∀ (n : Nat) {s t u : Tm}, s.size ≤ n → s.Sized ss → t.Sized ss → u.Sized ss → Tm.gt ss s t = true → Tm.gt ss t u = true → Tm.gt ss s u = true
  | 0, s, _, _, h, _, _, _, _, _ => by have := s.size_pos; omega
  | n + 1, s, t, u, hn, h1, h2, h3, h, h' => by
    have hc := covers_trans (Tm.gt_covers h) (Tm.gt_covers h')
    have w1 := Tm.gt_ge h
    have w2 := Tm.gt_ge h'
    cases s with
    | var i => rw [Tm.gt_var] at h; cases h
    | app f ts =>
    cases t with
    | var i => rw [Tm.gt_var] at h'; cases h'
    | app g us =>
    cases u with
    | var i =>
      rw [Tm.gt_av, hc, Bool.true_and]
      rw [Tm.gt_av, Bool.and_eq_true] at h'
      have := of_decide_eq_true h'.2
      exact decide_eq_true (by omega)
    | app k vs =>
      rw [Tm.gt_aa, Bool.and_eq_true] at h h'
      rw [Tm.gt_aa, hc, Bool.true_and]
      by_cases hw : (Tm.app f ts).wt ss = (Tm.app k vs).wt ss
      · rw [if_pos hw]
        have e1 : (Tm.app f ts).wt ss = (Tm.app g us).wt ss := by omega
        have e2 : (Tm.app g us).wt ss = (Tm.app k vs).wt ss := by omega
        rw [if_pos e1] at h
        rw [if_pos e2] at h'
        have q1 := h.2
        have q2 := h'.2
        by_cases f1 : f = g
        · by_cases f2 : g = k
          · rw [if_pos f1, Tm.gts_unlike] at q1
            rw [if_pos f2, Tm.gts_unlike] at q2
            rw [if_pos (f1.trans f2), Tm.gts_unlike]
            cases u1 : unlike ts us with
            | none => rw [u1] at q1; cases q1
            | some p =>
            cases u2 : unlike us vs with
            | none => rw [u2] at q2; cases q2
            | some q =>
            rw [u1] at q1
            rw [u2] at q2
            have m1 := unlike_mem u1
            have m2 := unlike_mem u2
            have l1 : ts.length = us.length := by rw [h1.len, h2.len, f1]
            have l2 : us.length = vs.length := by rw [h2.len, h3.len, f2]
            have hsz : p.1.size ≤ n := by
              have := Tm.size_mem m1.1
              rw [Tm.size_app] at hn
              omega
            rcases unlike_three l1 l2 u1 u2 with ⟨e, e'⟩ | e | e | ⟨e, e'⟩
            · rw [e]
              have q2 : Tm.gt ss q.1 q.2 = true := q2
              rw [← e'] at q2
              exact Tm.gt_trans n hsz (h1.arg _ m1.1) (h2.arg _ m1.2) (h3.arg _ m2.2) q1 q2
            · rw [e]; exact q1
            · rw [e]; exact q2
            · exfalso
              have q2' : Tm.gt ss p.2 p.1 = true := by rw [e, e']; exact q2
              have := Tm.gt_trans n hsz (h1.arg _ m1.1) (h2.arg _ m1.2) (h1.arg _ m1.1) q1 q2'
              rw [Tm.gt_irr] at this
              cases this
          · rw [if_neg f2] at q2
            have : ¬ f = k := by rw [f1]; exact f2
            rw [if_neg this, f1]
            exact q2
        · rw [if_neg f1] at q1
          have r1 := of_decide_eq_true q1
          by_cases f2 : g = k
          · have : ¬ f = k := by rw [← f2]; exact f1
            rw [if_neg this, ← f2]
            exact q1
          · rw [if_neg f2] at q2
            have r2 := of_decide_eq_true q2
            have : ¬ f = k := fun e => by rw [e] at r1; omega
            rw [if_neg this]
            exact decide_eq_true (by omega)
      · rw [if_neg hw]
        exact decide_eq_true (by omega)
theorem Tm.gt_tr {ss : List Sg} {s t u : Tm} (h1 : s.Sized ss) (h2 : t.Sized ss) (h3 : u.Sized ss) (h : Tm.gt ss s t = true) (h' : Tm.gt ss t u = true) : Tm.gt ss s u = true :=
  Tm.gt_trans s.size (Nat.le_refl _) h1 h2 h3 h h'
theorem Tm.gt_asym {ss : List Sg} {s t : Tm} (h1 : s.Sized ss) (h2 : t.Sized ss) (h : Tm.gt ss s t = true) : Tm.gt ss t s = false := by
  cases h' : Tm.gt ss t s with
  | false => rfl
  | true =>
    have := Tm.gt_tr h1 h2 h1 h h'
    rw [Tm.gt_irr] at this
    cases this
theorem arOf_mem {ss : List Sg} (hnd : (ss.map Sg.nm).Nodup) {s : Sg} (hs : s ∈ ss) : arOf s.nm ss = s.ar := by
  induction ss with
  | nil => cases hs
  | cons a ss ih =>
    unfold arOf
    rw [List.map_cons, List.nodup_cons] at hnd
    rcases List.mem_cons.mp hs with rfl | hs
    · rw [if_pos rfl]
    · have : a.nm ≠ s.nm := fun e => hnd.1 (by rw [e]; exact List.mem_map.mpr ⟨s, hs, rfl⟩)
      rw [if_neg this]
      exact ih hnd.2 hs
theorem Over.sized {ss : List Sg} {vs : List Int} {t : Tm} (h : Over ss vs t) (hnd : (ss.map Sg.nm).Nodup) : t.Sized ss := by
  induction h with
  | var _ => exact .var
  | app hm hl _ ih => exact .app (by rw [arOf_mem hnd hm]; exact hl) ih
theorem Over.among {ss : List Sg} {vs : List Int} {t : Tm} (h : Over ss vs t) : t.Nm (fun f => f ∈ ss.map Sg.nm) := by
  induction h with
  | var _ => exact .var
  | app hm _ _ ih => exact .app (List.mem_map.mpr ⟨_, hm, rfl⟩) ih
theorem rank_inj {f g : Str} : ∀ {ss : List Sg}, f ∈ ss.map Sg.nm → g ∈ ss.map Sg.nm → rankOf f ss = rankOf g ss → f = g
  | [], h, _, _ => by cases h
  | s :: ss, h, h', e => by
    unfold rankOf at e
    by_cases a : s.nm = f
    · by_cases b : s.nm = g
      · rw [← a, b]
      · rw [if_pos a, if_neg b] at e; omega
    · by_cases b : s.nm = g
      · rw [if_neg a, if_pos b] at e; omega
      · rw [if_neg a, if_neg b] at e
        rw [List.map_cons] at h h'
        rcases List.mem_cons.mp h with h | h
        · exact absurd h.symm a
        rcases List.mem_cons.mp h' with h' | h'
        · exact absurd h'.symm b
        exact rank_inj h h' (by omega)
theorem unlike_none : ∀ {as bs : List Tm}, as.length = bs.length → unlike as bs = none → as = bs
  | [], [], _, _ => rfl
  | [], b :: bs, h, _ => by cases h
  | a :: as, [], h, _ => by cases h
  | a :: as, b :: bs, h, e => by
    rw [unlike_cons] at e
    by_cases h' : a = b
    · rw [if_pos h'] at e
      rw [h', unlike_none (by simpa using h) e]
    · rw [if_neg h'] at e; cases e
theorem unlike_ne : ∀ {as bs : List Tm} {p : Tm × Tm}, unlike as bs = some p → p.1 ≠ p.2
  | [], bs, p, h => by unfold unlike at h; cases bs <;> cases h
  | a :: as, [], p, h => by unfold unlike at h; cases h
  | a :: as, b :: bs, p, h => by
    rw [unlike_cons] at h
    by_cases e : a = b
    · rw [if_pos e] at h; exact unlike_ne h
    · rw [if_neg e] at h; cases h; exact e
theorem unlike_swap : ∀ {as bs : List Tm} {p : Tm × Tm}, unlike as bs = some p → unlike bs as = some (p.2, p.1)
  | [], bs, p, h => by unfold unlike at h; cases bs <;> cases h
  | a :: as, [], p, h => by unfold unlike at h; cases h
  | a :: as, b :: bs, p, h => by
    rw [unlike_cons] at h ⊢
    by_cases e : a = b
    · rw [if_pos e] at h
      rw [if_pos e.symm]
      exact unlike_swap h
    · rw [if_neg e] at h
      rw [if_neg fun x => e x.symm]
      cases h
      rfl
/-- without blanks -/
def Tm.Bare (t : Tm) : Prop := t.flat = []
theorem Tm.Bare.arg {f : Str} {ts : List Tm} (h : (Tm.app f ts).Bare) : ∀ t ∈ ts, t.Bare := by
  unfold Tm.Bare at *
  rw [Tm.flat_app] at h
  induction ts with
  | nil => intro t ht; cases ht
  | cons a ts ih =>
    rw [Tm.flats_cons, List.append_eq_nil_iff] at h
    intro t ht
    rcases List.mem_cons.mp ht with rfl | ht
    · exact h.1
    · exact ih h.2 t ht
theorem covers_bare {s t : Tm} (h : t.Bare) : covers s t = true := by
  unfold covers Tm.Bare at *
  rw [h]
  rfl
theorem Tm.gt_total {ss : List Sg} : ∀ (n : Nat) {s t : Tm}, s.size ≤ n → s.Sized ss → t.Sized ss → s.Nm (fun f => f ∈ ss.map Sg.nm) → t.Nm (fun f => f ∈ ss.map Sg.nm) → s.Bare → t.Bare → s ≠ t → Tm.gt ss s t = true ∨ Tm.gt ss t s = true
  | 0, s, _, h, _, _, _, _, _, _, _ => by have := s.size_pos; omega
  | n + 1, s, t, hn, h1, h2, m1, m2, b1, b2, hne => by
    cases s with
    | var i => unfold Tm.Bare at b1; rw [Tm.flat_var] at b1; cases b1
    | app f ts =>
    cases t with
    | var i => unfold Tm.Bare at b2; rw [Tm.flat_var] at b2; cases b2
    | app g us =>
    rw [Tm.gt_aa, Tm.gt_aa, covers_bare b2, covers_bare b1, Bool.true_and, Bool.true_and]
    by_cases hw : (Tm.app f ts).wt ss = (Tm.app g us).wt ss
    · rw [if_pos hw, if_pos hw.symm]
      by_cases e : f = g
      · rw [if_pos e, if_pos e.symm, Tm.gts_unlike, Tm.gts_unlike]
        cases u1 : unlike ts us with
        | none =>
          have : ts = us := unlike_none (by rw [h1.len, h2.len, e]) u1
          exact absurd (by rw [e, this]) hne
        | some p =>
          rw [unlike_swap u1]
          have m := unlike_mem u1
          refine Tm.gt_total n ?_ (h1.arg _ m.1) (h2.arg _ m.2) (m1.arg _ m.1) (m2.arg _ m.2) (b1.arg _ m.1) (b2.arg _ m.2) (unlike_ne u1)
          have := Tm.size_mem m.1
          rw [Tm.size_app] at hn
          omega
      · rw [if_neg e, if_neg fun x => e x.symm]
        have : rankOf f ss ≠ rankOf g ss := fun x => e (rank_inj m1.hd m2.hd x)
        rcases Nat.lt_or_gt_of_ne this with x | x
        · exact .inr (decide_eq_true x)
        · exact .inl (decide_eq_true x)
    · rw [if_neg hw, if_neg fun x => hw x.symm]
      rcases Nat.lt_or_gt_of_ne hw with x | x
      · exact .inr (decide_eq_true x)
      · exact .inl (decide_eq_true x)
end DL
namespace DL
open PySem L2
/-! ### places -/
def plcD (p : List Nat) : D := .tup (p.map fun k => D.int (k : Nat))
mutual
def Tm.places : Tm → List (List Nat)
  | .var _ => [[]]
  | .app _ ts => Tm.placesL 0 ts ++ [[]]
def Tm.placesL : Nat → List Tm → List (List Nat)
  | _, [] => []
  | i, t :: ts => (t.places.map fun p => (i + 1) :: p) ++ Tm.placesL (i + 1) ts
end
theorem Tm.places_var (i : Int) : (Tm.var i).places = [[]] := by unfold Tm.places; rfl
theorem Tm.places_app (f : Str) (ts : List Tm) : (Tm.app f ts).places = Tm.placesL 0 ts ++ [[]] := by unfold Tm.places; rfl
theorem Tm.placesL_nil (i : Nat) : Tm.placesL i [] = [] := by unfold Tm.placesL; rfl
theorem Tm.placesL_cons (i : Nat) (t : Tm) (ts : List Tm) : Tm.placesL i (t :: ts) = (t.places.map fun p => (i + 1) :: p) ++ Tm.placesL (i + 1) ts := by rw [Tm.placesL]
theorem Tm.placesL_append : ∀ (i : Nat) (ts us : List Tm), Tm.placesL i (ts ++ us) = Tm.placesL i ts ++ Tm.placesL (i + ts.length) us
  | i, [], us => by rw [Tm.placesL_nil]; rfl
  | i, t :: ts, us => by
    rw [List.cons_append, Tm.placesL_cons, Tm.placesL_cons, Tm.placesL_append (i + 1) ts us, List.append_assoc, List.length_cons, show i + (ts.length + 1) = i + 1 + ts.length by omega]
theorem Tm.placesL_len : ∀ (i : Nat) (ts : List Tm), (∀ t ∈ ts, t.places.length = t.size) → (Tm.placesL i ts).length = Tm.sizes ts
  | i, [], _ => by rw [Tm.placesL_nil, Tm.sizes_nil]; rfl
  | i, t :: ts, h => by
    rw [Tm.placesL_cons, Tm.sizes_cons, List.length_append, List.length_map, h t (List.mem_cons_self ..), Tm.placesL_len (i + 1) ts fun u hu => h u (List.mem_cons_of_mem _ hu)]
theorem Tm.places_len : ∀ t : Tm, t.places.length = t.size := by
  refine Tm.ind (fun i => ?_) fun f ts ih => ?_
  · rw [Tm.places_var, Tm.size_var]; rfl
  · rw [Tm.places_app, Tm.size_app, List.length_append, Tm.placesL_len 0 ts ih]
    simp
    omega
/-- the part at a place -/
def Tm.at_ : List Nat → Tm → Option Tm
  | [], t => some t
  | k :: p, t => match t with
    | .var _ => none
    | .app _ ts => if 1 ≤ k then (match ts[k - 1]? with
      | some u => Tm.at_ p u
      | none => none) else none
/-- the term with another part at a place -/
def Tm.put (new : Tm) : List Nat → Tm → Tm
  | [], _ => new
  | k :: p, t => match t with
    | .var i => .var i
    | .app f ts => (match ts[k - 1]? with
      | some u => .app f (ts.set (k - 1) (Tm.put new p u))
      | none => .app f ts)
theorem Tm.placesL_mem : ∀ {ts : List Tm} {i : Nat} {p : List Nat}, p ∈ Tm.placesL i ts → ∃ j q u, p = (i + j + 1) :: q ∧ ts[j]? = some u ∧ q ∈ u.places
  | [], i, p, h => by rw [Tm.placesL_nil] at h; cases h
  | t :: ts, i, p, h => by
    rw [Tm.placesL_cons] at h
    rcases List.mem_append.mp h with h | h
    · obtain ⟨q, hq, rfl⟩ := List.mem_map.mp h
      exact ⟨0, q, t, rfl, rfl, hq⟩
    · obtain ⟨j, q, u, rfl, hj, hq⟩ := Tm.placesL_mem h
      exact ⟨j + 1, q, u, by rw [show i + 1 + j = i + (j + 1) by omega], hj, hq⟩
theorem Tm.at_places : ∀ (p : List Nat) {t : Tm}, p ∈ t.places → ∃ u, t.at_ p = some u
  | [], t, _ => ⟨t, by unfold Tm.at_; rfl⟩
  | k :: p, t, h => by
    cases t with
    | var i => rw [Tm.places_var] at h; simp at h
    | app f ts =>
      rw [Tm.places_app] at h
      rcases List.mem_append.mp h with h | h
      · obtain ⟨j, q, u, e, hj, hq⟩ := Tm.placesL_mem h
        injection e with e1 e2
        subst e1 e2
        obtain ⟨v, hv⟩ := Tm.at_places p hq
        refine ⟨v, ?_⟩
        unfold Tm.at_
        simp only [Nat.zero_add, Nat.add_sub_cancel, hj]
        rw [if_pos (by omega)]
        exact hv
      · simp at h
/-- a step down -/
theorem Tm.at_cons {k : Nat} {p : List Nat} {t v : Tm} (h : t.at_ (k :: p) = some v) : ∃ f ts u, t = .app f ts ∧ 1 ≤ k ∧ ts[k - 1]? = some u ∧ u.at_ p = some v := by
  cases t with
  | var i => unfold Tm.at_ at h; cases h
  | app f ts =>
    unfold Tm.at_ at h
    by_cases hk : 1 ≤ k
    · simp only [if_pos hk] at h
      cases hu : ts[k - 1]? with
      | none => rw [hu] at h; cases h
      | some u => rw [hu] at h; exact ⟨f, ts, u, rfl, hk, hu, h⟩
    · simp only [if_neg hk] at h; cases h
theorem Tm.put_nil (new t : Tm) : Tm.put new [] t = new := by unfold Tm.put; rfl
theorem Tm.put_app {new : Tm} {k : Nat} {p : List Nat} {f : Str} {ts : List Tm} {u : Tm} (h : ts[k - 1]? = some u) : Tm.put new (k :: p) (.app f ts) = .app f (ts.set (k - 1) (Tm.put new p u)) := by
  rw [Tm.put]
  simp only [h]
theorem Over.put {ss : List Sg} {vs : List Int} {new : Tm} (hn : Over ss vs new) : ∀ (p : List Nat) {t v : Tm}, t.at_ p = some v → Over ss vs t → Over ss vs (Tm.put new p t)
  | [], t, _, _, _ => by rw [Tm.put_nil]; exact hn
  | k :: p, t, v, h, ho => by
    obtain ⟨f, ts, u, rfl, hk, hu, hv⟩ := Tm.at_cons h
    rw [Tm.put_app hu]
    cases ho with
    | @app s ts hm hl ha =>
      refine .app hm (by rw [List.length_set]; exact hl) fun x hx => ?_
      rcases List.mem_or_eq_of_mem_set hx with hx | hx
      · exact ha x hx
      · rw [hx]
        exact Over.put hn p hv (ha u (List.mem_of_getElem? hu))
theorem Tm.sizes_set {ts : List Tm} {i : Nat} {u v : Tm} (h : ts[i]? = some u) : Tm.sizes (ts.set i v) + u.size = Tm.sizes ts + v.size := by
  induction ts generalizing i with
  | nil => cases h
  | cons t ts ih =>
    cases i with
    | zero =>
      cases h
      rw [List.set_cons_zero, Tm.sizes_cons, Tm.sizes_cons]
      omega
    | succ i =>
      rw [List.set_cons_succ, Tm.sizes_cons, Tm.sizes_cons]
      have := ih (i := i) h
      omega
theorem Tm.put_size {new : Tm} : ∀ (p : List Nat) {t v : Tm}, t.at_ p = some v → (Tm.put new p t).size ≤ t.size + new.size
  | [], t, _, _ => by rw [Tm.put_nil]; omega
  | k :: p, t, v, h => by
    obtain ⟨f, ts, u, rfl, hk, hu, hv⟩ := Tm.at_cons h
    rw [Tm.put_app hu, Tm.size_app, Tm.size_app]
    have h1 := Tm.sizes_set (v := Tm.put new p u) hu
    have h2 := Tm.put_size (new := new) p hv
    omega
theorem Tm.put_deep {new : Tm} : ∀ (p : List Nat) {t v : Tm}, t.at_ p = some v → (Tm.put new p t).deep ≤ t.deep + new.deep
  | [], t, _, _ => by rw [Tm.put_nil]; omega
  | k :: p, t, v, h => by
    obtain ⟨f, ts, u, rfl, hk, hu, hv⟩ := Tm.at_cons h
    rw [Tm.put_app hu, Tm.deep_app, Tm.deep_app]
    have h2 := Tm.put_deep (new := new) p hv
    have h3 := Tm.deep_mem (List.mem_of_getElem? hu)
    have := Tm.deeps_le (ts := ts.set (k - 1) (Tm.put new p u)) (n := Tm.deeps ts + new.deep) fun x hx => by
      rcases List.mem_or_eq_of_mem_set hx with hx | hx
      · have := Tm.deep_mem hx; omega
      · rw [hx]; omega
    omega
theorem Tm.flats_bare {ts : List Tm} (h : ∀ t ∈ ts, t.flat = []) : Tm.flats ts = [] := by
  induction ts with
  | nil => rw [Tm.flats_nil]
  | cons t ts ih => rw [Tm.flats_cons, h t (List.mem_cons_self ..), ih fun u hu => h u (List.mem_cons_of_mem _ hu)]; rfl
theorem Over.bare {ss : List Sg} {t : Tm} (h : Over ss [] t) : t.Bare := by
  induction h with
  | var hi => cases hi
  | app _ _ _ ih =>
    unfold Tm.Bare
    rw [Tm.flat_app]
    exact Tm.flats_bare ih
/-- how a term of a row of parts is put together anew -/
theorem put_parts {f : D} {ts : List D} {i : Nat} {v : D} (h : i < ts.length) : ((f :: ts).take (i + 1) ++ [v]) ++ (f :: ts).drop (i + 1 + 1) = f :: ts.set i v := by
  rw [List.take_succ_cons, List.drop_succ_cons, List.cons_append, List.cons_append, List.set_eq_take_append_cons_drop, if_pos h, List.append_assoc]
  rfl
theorem Tm.place_len : ∀ (p : List Nat) {t : Tm}, p ∈ t.places → p.length ≤ t.deep
  | [], t, _ => by simp
  | k :: p, t, h => by
    cases t with
    | var i => rw [Tm.places_var] at h; simp at h
    | app f ts =>
      rw [Tm.places_app] at h
      rcases List.mem_append.mp h with h | h
      · obtain ⟨j, q, u, e, hj, hq⟩ := Tm.placesL_mem h
        injection e with e1 e2
        subst e1 e2
        have := Tm.place_len p hq
        have := Tm.deep_mem (List.mem_of_getElem? hj)
        rw [Tm.deep_app, List.length_cons]
        omega
      · simp at h
theorem Tm.deeps_sizes {ts : List Tm} (h : ∀ t ∈ ts, t.deep ≤ t.size) : Tm.deeps ts ≤ Tm.sizes ts := by
  induction ts with
  | nil => rw [Tm.deeps_nil]; omega
  | cons t ts ih =>
    rw [Tm.deeps_cons, Tm.sizes_cons]
    have h1 := h t (List.mem_cons_self ..)
    have h2 := ih fun u hu => h u (List.mem_cons_of_mem _ hu)
    omega
theorem Tm.deep_size : ∀ t : Tm, t.deep ≤ t.size := by
  refine Tm.ind (fun i => ?_) fun f ts ih => ?_
  · rw [Tm.deep_var]; omega
  · rw [Tm.deep_app, Tm.size_app]; have := Tm.deeps_sizes ih; omega
end DL
namespace DL
open PySem L2
theorem qEq_bb {M : Mem} {a b : Bool} {Q : QD} : qEq (.bl a) (.bl b) M Q = Q (.bl (a == b)) M := by
  have e : ∀ c : Bool, py M (.bl c) = some (.bool c) := fun c => by unfold py pyG; rfl
  unfold qEq eqQ
  rw [e, e]
  simp only [PyData.canLay0, PyData.depth, PyData.eqv]
  simp
theorem qNe_bb {M : Mem} {a b : Bool} {Q : QD} : qNe (.bl a) (.bl b) M Q = Q (.bl (!(a == b))) M := by
  have e : ∀ c : Bool, py M (.bl c) = some (.bool c) := fun c => by unfold py pyG; rfl
  unfold qNe eqQ
  rw [e, e]
  simp only [PyData.canLay0, PyData.depth, PyData.eqv]
  simp
theorem qEq_b2 {M : Mem} {i j : Nat} {a b c d : Bool} {Q : QD} (h1 : M[i]? = some (.lst [.bl a, .bl b])) (h2 : M[j]? = some (.lst [.bl c, .bl d])) (q : Q (.bl ((a == c) && (b == d))) M) : qEq (.loc i) (.loc j) M Q := by
  have e : ∀ (n : Nat) (x y : Bool), M[n]? = some (.lst [.bl x, .bl y]) → py M (.loc n) = some (.list [.bool x, .bool y]) := fun n x y h => by
    unfold py pyG pyN pyL
    rw [h]
    simp only [pyGs, pyG]
    rfl
  unfold qEq eqQ
  rw [e _ _ _ h1, e _ _ _ h2]
  simp only [PyData.canLay0, PyData.canLayAll0, PyData.depth, PyData.depthAll, PyData.eqv, PyData.eqvAll]
  simp at q ⊢
  exact q
theorem qEq_ss {M : Mem} {x y : Str} {Q : QD} (hx : NameOk x) (hy : NameOk y) (k : ∀ b : Bool, (b = true ↔ x = y) → Q (.bl b) M) : qEq (.str x) (.str y) M Q :=
  qEq_pl (pl_name hx) (pl_name hy) (.inl (by unfold dep; omega)) fun b h => k b (by rw [h]; simp)
theorem qEq_same {M : Mem} {x : Str} {Q : QD} (hx : NameOk x) (k : Q (.bl true) M) : qEq (.str x) (.str x) M Q :=
  qEq_ss hx hx fun b hb => by rw [hb.mpr rfl]; exact k
theorem Over.fit {ss : List Sg} {vs : List Int} {t : Tm} (h : Over ss vs t) (hs : GoodSigns ss) (hd : t.deep ≤ 5) (hz : t.size ≤ 200) : Fit ss t := ⟨h.among, h.nm hs, by omega, by omega⟩
end DL
namespace DL
theorem decFT [h : Decidable (false = true)] : decide (false = true) = false := decide_eq_false Bool.false_ne_true
theorem decTF [h : Decidable (true = false)] : decide (true = false) = false := decide_eq_false (fun h => Bool.false_ne_true h.symm)
end DL
namespace DL
open PySem L2
/-! a comprehension within another: the outer one's names -/
def bodyAt (st : Stmt) (i : Nat) : Stmt := (defBody st).getD i (.Pass ⟨0, 0, 0, 0⟩)
def asgVal : Stmt → Expr
  | .Assign _ v _ => v
  | _ => .Constant .none 0 ⟨0, 0, 0, 0⟩
def lcScope : Expr → Scope → Scope
  | .ListComp _ _ s _, _ => s
  | _, d => d
end DL
namespace DL
open PySem L2
/-! ### the order is kept under filling, and within a term -/
def valF (fs : Fl) (i : Int) : Tm := (getF fs i).getD (.var i)
theorem Tm.flats_fill (fs : Fl) (ts : List Tm) (h : ∀ t ∈ ts, (t.fill fs).flat = t.flat.flatMap fun i => (valF fs i).flat) : Tm.flats (ts.map (Tm.fill fs)) = (Tm.flats ts).flatMap fun i => (valF fs i).flat := by
  induction ts with
  | nil => rw [List.map_nil, Tm.flats_nil]; rfl
  | cons t ts ih => rw [List.map_cons, Tm.flats_cons, Tm.flats_cons, List.flatMap_append, h t (List.mem_cons_self ..), ih fun u hu => h u (List.mem_cons_of_mem _ hu)]
theorem Tm.flat_fill (fs : Fl) : ∀ t : Tm, (t.fill fs).flat = t.flat.flatMap fun i => (valF fs i).flat := by
  refine Tm.ind (fun i => ?_) fun f ts ih => ?_
  · rw [Tm.fill_var, Tm.flat_var]
    show (valF fs i).flat = _
    simp
  · rw [Tm.fill_app, Tm.flat_app, Tm.flat_app]
    exact Tm.flats_fill fs ts ih
theorem perm_sum {l m : List Nat} (h : l.Perm m) : l.sum = m.sum := by
  induction h with
  | nil => rfl
  | cons a _ ih => rw [List.sum_cons, List.sum_cons, ih]
  | swap a b l => rw [List.sum_cons, List.sum_cons, List.sum_cons, List.sum_cons]; omega
  | trans _ _ h1 h2 => rw [h1, h2]
/-- a sum over a row of numbers grows with the row -/
theorem sum_le_of_count {l m : List Int} (f : Int → Nat) (h : ∀ b, m.count b ≤ l.count b) : (m.map f).sum ≤ (l.map f).sum := by
  induction m generalizing l with
  | nil => simp
  | cons a m ih =>
    have ha : a ∈ l := by
      have := h a
      rw [List.count_cons_self] at this
      exact List.count_pos_iff.mp (by omega)
    have hp := List.perm_cons_erase ha
    have e : (l.map f).sum = f a + ((l.erase a).map f).sum := by
      have := perm_sum (hp.map f)
      rw [this, List.map_cons, List.sum_cons]
    have h2 : ∀ b, m.count b ≤ (l.erase a).count b := fun b => by
      have h3 := h b
      rw [hp.count_eq b] at h3
      rw [List.count_cons, List.count_cons] at h3
      omega
    rw [List.map_cons, List.sum_cons, e]
    have := ih h2
    omega
theorem count_flatMap (l : List Int) (g : Int → List Int) (b : Int) : (l.flatMap g).count b = (l.map fun i => (g i).count b).sum := by
  induction l with
  | nil => rfl
  | cons a l ih => rw [List.flatMap_cons, List.count_append, ih, List.map_cons, List.sum_cons]
theorem covers_fill {s t : Tm} (fs : Fl) (h : covers s t = true) : covers (s.fill fs) (t.fill fs) = true := by
  rw [covers_iff] at h ⊢
  intro b
  rw [Tm.flat_fill, Tm.flat_fill, count_flatMap, count_flatMap]
  exact sum_le_of_count _ h
theorem Tm.wts_fill (ss : List Sg) (fs : Fl) (ts : List Tm) (h : ∀ t ∈ ts, (t.fill fs).wt ss + t.flat.length = t.wt ss + (t.flat.map fun i => (valF fs i).wt ss).sum) :
    Tm.wts ss (ts.map (Tm.fill fs)) + (Tm.flats ts).length = Tm.wts ss ts + ((Tm.flats ts).map fun i => (valF fs i).wt ss).sum := by
  induction ts with
  | nil => rw [List.map_nil, Tm.wts_nil, Tm.flats_nil]; rfl
  | cons t ts ih =>
    rw [List.map_cons, Tm.wts_cons, Tm.wts_cons, Tm.flats_cons, List.length_append, List.map_append, List.sum_append]
    have h1 := h t (List.mem_cons_self ..)
    have h2 := ih fun u hu => h u (List.mem_cons_of_mem _ hu)
    omega
theorem Tm.wt_fill (ss : List Sg) (fs : Fl) : ∀ t : Tm, (t.fill fs).wt ss + t.flat.length = t.wt ss + (t.flat.map fun i => (valF fs i).wt ss).sum := by
  refine Tm.ind (fun i => ?_) fun f ts ih => ?_
  · rw [Tm.fill_var, Tm.flat_var, Tm.wt_var]
    show (valF fs i).wt ss + 1 = 1 + ([i].map fun i => (valF fs i).wt ss).sum
    simp
    omega
  · rw [Tm.fill_app, Tm.flat_app, Tm.wt_app, Tm.wt_app]
    have := Tm.wts_fill ss fs ts ih
    omega
/-- what filling adds to the weight is no less for the term with more blanks -/
theorem Tm.wt_fill_le {ss : List Sg} {fs : Fl} (hv : ∀ i, 1 ≤ (valF fs i).wt ss) {s t : Tm} (h : covers s t = true) : t.wt ss ≤ s.wt ss → (t.fill fs).wt ss + s.wt ss ≤ (s.fill fs).wt ss + t.wt ss := by
  intro _
  have h1 := Tm.wt_fill ss fs s
  have h2 := Tm.wt_fill ss fs t
  have split : ∀ l : List Int, (l.map fun i => (valF fs i).wt ss).sum = l.length + (l.map fun i => (valF fs i).wt ss - 1).sum := fun l => by
    induction l with
    | nil => rfl
    | cons a l ih =>
      rw [List.map_cons, List.sum_cons, List.map_cons, List.sum_cons, List.length_cons, ih]
      have := hv a
      omega
  have h3 := sum_le_of_count (fun i => (valF fs i).wt ss - 1) (covers_iff.mp h)
  rw [split] at h1 h2
  omega
theorem unlike_map {g : Tm → Tm} : ∀ {as bs : List Tm} {p : Tm × Tm}, unlike as bs = some p → g p.1 ≠ g p.2 → unlike (as.map g) (bs.map g) = some (g p.1, g p.2)
  | [], bs, p, h, _ => by unfold unlike at h; cases bs <;> cases h
  | a :: as, [], p, h, _ => by unfold unlike at h; cases h
  | a :: as, b :: bs, p, h, hne => by
    rw [List.map_cons, List.map_cons, unlike_cons]
    rw [unlike_cons] at h
    by_cases e : a = b
    · rw [if_pos e] at h
      rw [e, if_pos rfl]
      exact unlike_map h hne
    · rw [if_neg e] at h
      cases h
      rw [if_neg hne]
theorem Tm.gt_fill {ss : List Sg} {fs : Fl} (hv : ∀ i, 1 ≤ (valF fs i).wt ss) (hw : ∀ s ∈ ss, 1 ≤ s.wt) : ∀ (n : Nat) {s t : Tm}, s.size ≤ n → s.Nm (fun f => f ∈ ss.map Sg.nm) → t.Nm (fun f => f ∈ ss.map Sg.nm) →
    (s.fill fs).Nm (fun f => f ∈ ss.map Sg.nm) → (t.fill fs).Nm (fun f => f ∈ ss.map Sg.nm) → Tm.gt ss s t = true → Tm.gt ss (s.fill fs) (t.fill fs) = true
  | 0, s, _, h, _, _, _, _, _ => by have := s.size_pos; omega
  | n + 1, s, t, hn, m1, m2, k1, k2, h => by
    have hc := Tm.gt_covers h
    have hc' := covers_fill fs hc
    have hge := Tm.gt_ge h
    have hwt := Tm.wt_fill_le hv hc hge
    by_cases hww : (s.fill fs).wt ss = (t.fill fs).wt ss
    · have hst : s.wt ss = t.wt ss := by omega
      cases s with
      | var i => rw [Tm.gt_var] at h; cases h
      | app f ts =>
      cases t with
      | var i =>
        rw [Tm.gt_av, Bool.and_eq_true] at h
        have := of_decide_eq_true h.2
        omega
      | app g us =>
      rw [Tm.gt_aa, Bool.and_eq_true, if_pos hst] at h
      rw [Tm.fill_app, Tm.fill_app] at *
      rw [Tm.gt_aa, hc', Bool.true_and, if_pos hww]
      by_cases e : f = g
      · have h2 := h.2
        rw [if_pos e, Tm.gts_unlike] at h2
        rw [if_pos e, Tm.gts_unlike]
        cases hu : unlike ts us with
        | none => rw [hu] at h2; cases h2
        | some p =>
          rw [hu] at h2
          have hm := unlike_mem hu
          have hsz := Tm.size_mem hm.1
          rw [Tm.size_app] at hn
          have ih := Tm.gt_fill hv hw n (s := p.1) (t := p.2) (by omega) (m1.arg _ hm.1) (m2.arg _ hm.2) (k1.arg _ (List.mem_map.mpr ⟨_, hm.1, rfl⟩)) (k2.arg _ (List.mem_map.mpr ⟨_, hm.2, rfl⟩)) h2
          have hne : p.1.fill fs ≠ p.2.fill fs := fun x => by rw [x, Tm.gt_irr] at ih; cases ih
          rw [unlike_map (g := Tm.fill fs) hu hne]
          exact ih
      · have h2 := h.2
        rw [if_neg e] at h2
        rw [if_neg e]
        exact h2
    · rw [Tm.gt_wt hw k1 k2 hc' hww]
      exact decide_eq_true (by omega)
/-! within a term -/
theorem flats_set {ts : List Tm} {i : Nat} {u v : Tm} (h : ts[i]? = some u) (b : Int) : (Tm.flats (ts.set i v)).count b + u.flat.count b = (Tm.flats ts).count b + v.flat.count b := by
  induction ts generalizing i with
  | nil => cases h
  | cons t ts ih =>
    cases i with
    | zero =>
      cases h
      rw [List.set_cons_zero, Tm.flats_cons, Tm.flats_cons, List.count_append, List.count_append]
      omega
    | succ i =>
      rw [List.set_cons_succ, Tm.flats_cons, Tm.flats_cons, List.count_append, List.count_append]
      have := ih (i := i) h
      omega
theorem Tm.wts_set {ss : List Sg} {ts : List Tm} {i : Nat} {u v : Tm} (h : ts[i]? = some u) : Tm.wts ss (ts.set i v) + u.wt ss = Tm.wts ss ts + v.wt ss := by
  induction ts generalizing i with
  | nil => cases h
  | cons t ts ih =>
    cases i with
    | zero =>
      cases h
      rw [List.set_cons_zero, Tm.wts_cons, Tm.wts_cons]
      omega
    | succ i =>
      rw [List.set_cons_succ, Tm.wts_cons, Tm.wts_cons]
      have := ih (i := i) h
      omega
theorem unlike_set {ts : List Tm} {i : Nat} {u x y : Tm} (h : ts[i]? = some u) (hne : x ≠ y) : unlike (ts.set i x) (ts.set i y) = some (x, y) := by
  induction ts generalizing i with
  | nil => cases h
  | cons t ts ih =>
    cases i with
    | zero => rw [List.set_cons_zero, List.set_cons_zero, unlike_cons, if_neg hne]
    | succ i => rw [List.set_cons_succ, List.set_cons_succ, unlike_cons, if_pos rfl]; exact ih h
theorem Tm.gt_put {ss : List Sg} {s t : Tm} (h : Tm.gt ss s t = true) (hw : ∀ s ∈ ss, 1 ≤ s.wt) : ∀ (p : List Nat) {u v : Tm}, u.at_ p = some v → (Tm.put s p u).Nm (fun f => f ∈ ss.map Sg.nm) → (Tm.put t p u).Nm (fun f => f ∈ ss.map Sg.nm) → Tm.gt ss (Tm.put s p u) (Tm.put t p u) = true
  | [], u, _, _, _, _ => by rw [Tm.put_nil, Tm.put_nil]; exact h
  | k :: p, u, v, hv, m1, m2 => by
    obtain ⟨f, ts, w, rfl, hk, hu, hv⟩ := Tm.at_cons hv
    rw [Tm.put_app hu] at m1 m2 ⊢
    rw [Tm.put_app hu]
    have hlt := (List.getElem?_eq_some_iff.mp hu).1
    have ih := Tm.gt_put h hw p hv (m1.arg _ (List.mem_iff_getElem?.mpr ⟨k - 1, by rw [List.getElem?_set_self hlt]⟩)) (m2.arg _ (List.mem_iff_getElem?.mpr ⟨k - 1, by rw [List.getElem?_set_self hlt]⟩))
    have hc := Tm.gt_covers ih
    have hge := Tm.gt_ge ih
    have hcov : covers (.app f (ts.set (k - 1) (Tm.put s p w))) (.app f (ts.set (k - 1) (Tm.put t p w))) = true := by
      rw [covers_iff] at hc ⊢
      intro b
      rw [Tm.flat_app, Tm.flat_app]
      have h1 := flats_set (v := Tm.put s p w) hu b
      have h2 := flats_set (v := Tm.put t p w) hu b
      have := hc b
      omega
    have w1 := Tm.wts_set (ss := ss) (v := Tm.put s p w) hu
    have w2 := Tm.wts_set (ss := ss) (v := Tm.put t p w) hu
    rw [Tm.gt_aa, hcov, Bool.true_and]
    by_cases e : (Tm.app f (ts.set (k - 1) (Tm.put s p w))).wt ss = (Tm.app f (ts.set (k - 1) (Tm.put t p w))).wt ss
    · rw [if_pos e, if_pos rfl, Tm.gts_unlike]
      have hne : Tm.put s p w ≠ Tm.put t p w := fun x => by rw [x, Tm.gt_irr] at ih; cases ih
      rw [unlike_set hu hne]
      exact ih
    · rw [if_neg e]
      rw [Tm.wt_app, Tm.wt_app] at *
      exact decide_eq_true (by omega)
end DL
namespace DL
open PySem L2
theorem cut4 {A B C E R : DTS} {D : DEnds} {r : Rho} {M : Mem} (W : Rho → Mem → Prop) (h2 : ∀ r' M', W r' M' → R D r' M') (h1 : ∀ R', (∀ r' M', W r' M' → R' D r' M') → dSeq A (dSeq B (dSeq C (dSeq E R'))) D r M) : dSeq A (dSeq B (dSeq C (dSeq E R))) D r M := h1 R h2
end DL
/-! list(reversed(a list)) -/
namespace DL
open PySem PySem.Spec PyProof.Rows RT
section
variable {prog : Program} {w : World} {A : Around} {E : Value → Shared → Prop} {s : Shared}
theorem list_init_rev {it l S : Addr} {items : Array Value} {R : Result → Shared → Prop} (hh : A.handled = none) (hit : s.heap.IsRevIter it l ((items.size : Int) - 1)) (hl : s.heap.IsList l items) (hne : l ≠ it) (hn : items.size ≤ sizeLine)
    (hSi : S ≠ it) (hSl : S ≠ l) (hS : s.heap.get? S = some { cls := .type "list", data := .seq #[] })
    (hR : ∀ (h' : Heap) (tk : Nat) (acc : Array Value) (c' : Nat), (∀ b o, b ≠ it → b ≠ S → s.heap.get? b = some o → h'.get? b = some o) → h'.get? S = some { cls := .type "list", dict := none, data := .seq acc c', slots := #[] } →
      ItemsOf (fun i v => items[items.size - 1 - i]? = some v) acc items.size → R (.ok (.ret .none)) { s with heap := h', toks := tk }) :
    wpAny (model prog w) A.in1 (Builtin.«list.__init__» ⟨[.ref S, .ref it], []⟩)
      (fun fin s' => match fin with | .done f => R (.ok f) s' | .again c' => c'.quiet = true ∧ codeAny (model prog w) A c' R s') (fun e s' => R (.error e) s') s := by
  have W := (Walks.listRev (prog := prog) (w := w) (A := A.in1) hh it l hne items).toS
  have hSf : S ∉ [it, l] := by simp only [List.mem_cons, List.not_mem_nil, or_false, not_or]; exact ⟨hSi, hSl⟩
  show wpAny _ _ (do let old ← Builtin.List.listItems (.ref S); Builtin.List.listUpdate (.ref S) (fun _ => #[]); letGo old.toList.reverse; Builtin.List.listExtendWith (.ref S) (.ref it) .none) _ _ s
  refine wpAny_bind ?_
  unfold Builtin.List.listItems
  refine wpAny_bind (wpAny_seqItems hS rfl (wpAny_pure ?_))
  show wpAny _ _ (updateSeq S (fun _ => #[]) >>= fun _ => letGo (#[] : Array Value).toList.reverse >>= fun _ => Builtin.List.listExtendWith (.ref S) (.ref it) .none) _ _ s
  refine wpAny_bind (wpAny_updateSeq hS rfl ?_)
  have hS₂ := Heap.get?_update_self (Obj.mapSeq (fun _ => (#[] : Array Value))) hS rfl
  have oth : ∀ b o, b ≠ S → s.heap.get? b = some o → (s.heap.update S (Obj.mapSeq (fun _ => (#[] : Array Value)))).get? b = some o :=
    fun b o hb e => (Heap.get?_update_other _ _ (Ne.symm hb)).trans e
  refine wpAny_bind (wpAny_letGo ?_)
  have hit1 : (s.heap.update S (Obj.mapSeq (fun _ => (#[] : Array Value)))).IsRevIter it l ((items.size : Int) - 1) := hit.at fun o e => oth _ _ (Ne.symm hSi) e
  have hl1 : (s.heap.update S (Obj.mapSeq (fun _ => (#[] : Array Value)))).IsList l items := by
    obtain ⟨o, h1, h2⟩ := hl
    exact ⟨o, oth _ _ (Ne.symm hSl) h1, h2⟩
  have hT : ({ s with heap := s.heap.update S (Obj.mapSeq (fun _ => (#[] : Array Value))) } : Shared).TypeIs (.ref it) "list_reverseiterator" := Heap.IsRevIter.typeIs (s := { s with heap := s.heap.update S (Obj.mapSeq (fun _ => (#[] : Array Value))) }) hit1
  have h1 : Builtin.List.listSameRef (.ref S) (.ref it) = false := by simp [Builtin.List.listSameRef, hSi]
  unfold Builtin.List.listExtendWith
  refine wpAny_bind (wpAny_typeOf hT ?_)
  rw [if_neg (by rw [h1]; decide)]
  refine wpAny_bind (wpAny_pyIter_revIter (s := { s with heap := s.heap.update S (Obj.mapSeq (fun _ => (#[] : Array Value))) }) hit1 ?_)
  refine wpAny_bind (wpAny_holding ?_)
  unfold Builtin.List.listLengthHint
  refine wpAny_bind (wpAny_specialOf hT nolen_lri ?_)
  show wpAny _ A.in1 (specialOf (Value.ref it) (Str.ofString "__length_hint__") >>= _) _ _ _
  refine wpAny_bind (wpAny_specialOf hT hint_lri ?_)
  generalize hid : ("list_reverseiterator.__length_hint__" : String) = id0
  wp_delta
  rw [show splitId id0 = some ("list_reverseiterator", "__length_hint__") from by subst hid; decide +kernel]
  subst hid
  refine wpAny_bind (wpAny_isInstance (b := true) hT (by rw [isSubtype_type]; kernel_rfl) ?_)
  refine wpAny_pure ?_
  rw [if_neg (by decide)]
  have e0 : ((items.size : Nat) : Int) - 1 - ((0 : Nat) : Int) = (items.size : Int) - 1 := by omega
  refine wpAny_pure ⟨plainId_quiet F.plain_extend_loop _, codeAny_extend_loopS W hn _ hSf _ items.size 0 _ _ _ rfl (Nat.zero_le _) ⟨Nat.zero_le _, by rw [e0]; exact hit1, hl1⟩ hS₂ (ItemsOf.nil _) fun s' acc' c' hm hS' hacc => ?_⟩
  rw [Moved.eq_with hm]
  refine hR s'.heap s'.toks acc' c' (fun b o hb hbS e => hm.heap b o (fun hmem => ?_) (oth b o hbS e)) hS' hacc
  rcases List.mem_cons.mp hmem with e' | hmem
  · exact hbS e'
  · exact hb (List.mem_singleton.mp hmem)
theorem call_list_rev {it l : Addr} {items : Array Value} {Q : Value → Shared → Prop} (hh : A.handled = none) (hit : s.heap.IsRevIter it l ((items.size : Int) - 1)) (hl : s.heap.IsList l items) (hne : l ≠ it) (hn : items.size ≤ sizeLine)
    (hQ : ∀ (h' : Heap) (tk : Nat) (acc : Array Value) (c' : Nat), (∀ b o, b ≠ it → s.heap.get? b = some o → h'.get? b = some o) → h'.get? s.heap.objs.size = some { cls := .type "list", dict := none, data := .seq acc c', slots := #[] } →
      ItemsOf (fun i v => items[items.size - 1 - i]? = some v) acc items.size → Q (.ref s.heap.objs.size) { s with heap := h', toks := tk }) :
    wpAny (model prog w) A (call (.type "list") [.ref it]) Q E s := by
  obtain ⟨oi, hoi, _⟩ := id hit
  obtain ⟨ol, hol, _⟩ := id hl
  refine callType_codes (Q₁ := fun obj s₁ => obj = .ref s.heap.objs.size ∧ s₁ = { s with heap := s.heap.push { cls := .type "list", data := .seq #[] } }) F.called_list (F.typeCall_list_1 _) F.entry_list_init
    (code_list_new _ ⟨rfl, rfl⟩) fun obj s₁ h₁ => ?_
  obtain ⟨rfl, rfl⟩ := h₁
  have hS : (s.heap.push { cls := .type "list", data := .seq #[] }).get? s.heap.objs.size = some { cls := .type "list", data := .seq #[] } := Heap.get?_push_size _ rfl
  refine ⟨⟨_, hS, rfl⟩, F.args_list_init_2 _ _, list_init_rev (A := A.in1) hh (hit.at fun o e => Heap.get?_push_of_some _ e) (hl.push _) hne hn (Nat.ne_of_gt (Heap.lt_size hoi)) (Nat.ne_of_gt (Heap.lt_size hol)) hS fun h' tk acc' c' hk hS' hacc => ?_⟩
  exact ⟨rfl, hQ h' tk acc' c' (fun b o hb e => hk b o hb (Nat.ne_of_lt (Heap.lt_size e)) (Heap.get?_push_of_some _ e)) hS' hacc⟩
end
end DL
namespace DL
open PySem PySem.Spec PyProof.Rows L2 RT
def tListRev (K : PySem.W.Frag) (te : TE) : TE := fun σ H Q => te σ H fun v H1 => ∃ (a : Addr) (xs : List V), v = .ref a ∧ SqL K H1 a xs ∧ ∀ q, H1 q = none → Q (.ref q) (upd H1 q (.lst xs.reverse))
section
variable {X : Cx}
theorem pe_listRev {e : Expr} {te : TE} {p p2 pos pos2 : Pos} (hc : X.calm = true) (hg : Gl X "list") (hm : X.mg "list" = none) (hg2 : Gl X "reversed") (hm2 : X.mg "reversed" = none) (he : PE X e te)
    (hs : starEach [e] X.env = (false, eval e X.env) :: starEach [] X.env := by rfl)
    (hs2 : starEach [.Call (.Name "reversed" p2) [e] [] pos2] X.env = (false, eval (.Call (.Name "reversed" p2) [e] [] pos2) X.env) :: starEach [] X.env := by rfl) :
    PE X (.Call (.Name "list" p) [.Call (.Name "reversed" p2) [e] [] pos2] [] pos) (tListRev X.K te) := by
  refine ⟨fun pins s σ H Q I h => ?_⟩
  refine Call_ (ld_blt I hg hm boot_list (PyProof.Rows.callWith_type1 (args_cons (Call_ (ld_blt I hg2 hm2 PyProof.Rows.boot_reversed (PyProof.Rows.callWith_type1 (args_cons (thn (he.run pins s σ H _ I h) fun u s1 ⟨v, H1, I1, r1, q1⟩ => args_nil ?_) hs) hs rfl))) hs2) hs2 rfl))
  obtain ⟨a, xs, ev, hq, q⟩ := q1
  subst ev
  obtain rfl : u = Value.ref a := r1
  obtain ⟨its, rv, p', hz⟩ := I1.list hq
  refine call_reversed_list p'.isList (args_nil ?_)
  have hl := p'.isList
  obtain ⟨ol, hol, _⟩ := id hl
  have hlt := Heap.lt_size hol
  have hne : a ≠ s1.heap.objs.size := Nat.ne_of_lt hlt
  have hn : its.toArray.size ≤ sizeLine := by rw [List.size_toArray, ← rv.length]; exact hz
  refine call_list_rev (s := { s1 with heap := s1.heap.push (revObj a ((its.toArray.size : Int) - 1)) }) (I1.ok.hd hc) ⟨_, Heap.get?_push_size _ rfl, rfl, rfl⟩ (hl.push _) hne hn fun h' tk acc c' hk hS' hi => ?_
  have hk1 : ∀ b o, s1.heap.get? b = some o → h'.get? b = some o := fun b o e => hk b o (Nat.ne_of_lt (Heap.lt_size e)) (Heap.get?_push_of_some _ e)
  have hsz : s1.heap.objs.size ≤ (s1.heap.push (revObj a ((its.toArray.size : Int) - 1))).objs.size := by
    rw [Heap.size_push]; omega
  refine ⟨.ref (s1.heap.push (revObj a ((its.toArray.size : Int) - 1))).objs.size, upd H1 (s1.heap.push (revObj a ((its.toArray.size : Int) - 1))).objs.size (.lst xs.reverse), I1.laid (t' := tk) hk1 hsz (show ObjOk X.prog X.w _ _ _ (.lst xs.reverse) from ⟨by rw [List.length_reverse]; exact hz, acc.toList, c', vals_rev rv hi, ?_⟩), rfl, q _ (I1.hok.fresh hsz)⟩
  rw [Array.toArray_toList]
  exact hS'
end
end DL
namespace DL
open PySem L2
def dListRev (te : DTE) : DTE := fun r M Q => te r M fun x M1 => match lstD x M1 with
  | some ds => Q (.loc M1.length) (M1 ++ [.lst ds.reverse])
  | none => False
section
variable {z : Zx} {pos : Pos} {te : DTE} {e : Expr}
theorem de_listRev {p p2 pos2 : Pos} (hc : z.X.calm = true) (hm : z.X.mg "list" = none) (hm2 : z.X.mg "reversed" = none) (h : DE z e te) (hg : Gl z.X "list" := by rfl) (hg2 : Gl z.X "reversed" := by rfl)
    (hs : starEach [e] z.X.env = (false, eval e z.X.env) :: starEach [] z.X.env := by rfl)
    (hs2 : starEach [.Call (.Name "reversed" p2) [e] [] pos2] z.X.env = (false, eval (.Call (.Name "reversed" p2) [e] [] pos2) z.X.env) :: starEach [] z.X.env := by rfl) :
    DE z (.Call (.Name "list" p) [.Call (.Name "reversed" p2) [e] [] pos2] [] pos) (dListRev te) := by
  obtain ⟨wa, pa, la⟩ := h
  refine ⟨_, pe_listRev hc hg hm hg2 hm2 pa hs hs2, fun m r M σ H Q Qd s q t => la m r M σ H _ _ s q fun x M1 m1 v H1 q1 g1 r1 d1 => ?_⟩
  split at q1
  · rename_i ds e
    obtain ⟨a, vs, rfl, sq, rq⟩ := lst_of r1 d1 e
    exact ⟨a, vs, rfl, sq, fun p hp => new_lst r1 rq.reverse hp q1 (t.grow g1)⟩
  · exact q1.elim
end
end DL
namespace DL
open PySem L2
/-! == of deep data -/
def eqQB (M : Mem) (x y : D) (k : Bool → Prop) : Prop := match py M x, py M y with
  | some a, some b => a.canLay0 = true ∧ b.canLay0 = true ∧ min a.depth b.depth ≤ 299 ∧ k (PyData.eqv a b)
  | _, _ => False
def qEqB : DR2 := fun x y M Q => eqQB M x y fun b => Q (.bl b) M
def qNeB : DR2 := fun x y M Q => eqQB M x y fun b => Q (.bl (!b)) M
theorem room_eqB {k : Nat} {A : Around} (hr : Room k A) (hk : 7 ≤ k) : A.units + 299 < cLine := by have := hr.un; omega
theorem dop_eqB {z : Zx} {k : Nat} (hr : Room k z.X.A) (hk : 7 ≤ k) : DOp z (compareOp .Eq) qEqB := by
  refine ⟨_, op_eqR (room_eqB hr hk), fun m M H x y dx dy Q Qd r d1 d2 h t => ?_⟩
  unfold qEqB eqQB at h
  split at h
  · rename_i e1 e2
    exact ⟨_, _, py_ok r e1 d1, py_ok r e2 d2, h.1, h.2.1, h.2.2.1, t _ _ _ _ _ h.2.2.2 .refl r RD.bl'⟩
  · exact h.elim
theorem dop_neB {z : Zx} {k : Nat} (hr : Room k z.X.A) (hk : 7 ≤ k) : DOp z (compareOp .NotEq) qNeB := by
  refine ⟨_, op_neR (room_eqB hr hk), fun m M H x y dx dy Q Qd r d1 d2 h t => ?_⟩
  unfold qNeB eqQB at h
  split at h
  · rename_i e1 e2
    exact ⟨_, _, py_ok r e1 d1, py_ok r e2 d2, h.1, h.2.1, h.2.2.1, t _ _ _ _ _ h.2.2.2 .refl r RD.bl'⟩
  · exact h.elim
theorem eqQB_pl {M : Mem} {x y : D} {k : Bool → Prop} (h1 : pl x = true) (h2 : pl y = true) (hd : dep x ≤ 299 ∨ dep y ≤ 299) (q : ∀ b : Bool, (b = true ↔ x = y) → k b) : eqQB M x y k := by
  unfold eqQB
  rw [py_pl h1, py_pl h2]
  exact ⟨lay_pl h1, lay_pl h2, by rw [depth_pl, depth_pl]; omega, q _ (eqv_pl h1 h2)⟩
theorem qEqB_pl {M : Mem} {x y : D} {Q : QD} (h1 : pl x = true) (h2 : pl y = true) (hd : dep x ≤ 299 ∨ dep y ≤ 299) (q : ∀ b : Bool, (b = true ↔ x = y) → Q (.bl b) M) : qEqB x y M Q := eqQB_pl h1 h2 hd q
theorem qNeB_pl {M : Mem} {x y : D} {Q : QD} (h1 : pl x = true) (h2 : pl y = true) (hd : dep x ≤ 299 ∨ dep y ≤ 299) (q : ∀ b : Bool, (b = true ↔ x ≠ y) → Q (.bl b) M) : qNeB x y M Q :=
  eqQB_pl h1 h2 hd fun b hb => q _ (by cases b with
    | false => simp; intro h; have := hb.mpr h; cases this
    | true => simp; exact hb.mp rfl)
end DL
namespace DL
open PySem L2
/-- a comprehension that changes nothing -/
theorem lcGo_pure {α : Type} {ok : Mem → Prop} {j : Nat} {r0 : Rho} {tt : DTT} {te : DTE} {k : List D → Mem → Prop} {M : Mem} (g : α → D) (f : α → Option D) (hok : ok M) : ∀ (l : List α) (acc : List D),
    (∀ a ∈ l, ∀ (C : D → Mem → Prop) (N : Mem → Prop), (match f a with
      | some y => C y M
      | none => N M) → tt (r0.set j (some (g a))) M fun b M2 => match b with
      | true => te (r0.set j (some (g a))) M2 C
      | false => N M2) → acc.length + l.length ≤ sizeLine → k (acc ++ l.filterMap f) M → lcGo ok j r0 tt te (l.map g) M acc k
  | [], acc, _, _, q => by
    rw [List.filterMap_nil, List.append_nil] at q
    exact ⟨hok, q⟩
  | a :: l, acc, h, hl, q => by
    rw [List.map_cons]
    rw [List.length_cons] at hl
    refine ⟨hok, h a (List.mem_cons_self ..) _ _ ?_⟩
    cases e : f a with
    | some y =>
      refine ⟨by omega, lcGo_pure g f hok l _ (fun b hb => h b (List.mem_cons_of_mem _ hb)) (by rw [List.length_append, List.length_singleton]; omega) ?_⟩
      rw [List.filterMap_cons_some e] at q
      rw [List.append_assoc]
      exact q
    | none =>
      refine lcGo_pure g f hok l _ (fun b hb => h b (List.mem_cons_of_mem _ hb)) (by omega) ?_
      rw [List.filterMap_cons_none e] at q
      exact q
/-- the same, where each item gives one -/
theorem lcGo_map {α : Type} {ok : Mem → Prop} {j : Nat} {r0 : Rho} {te : DTE} {k : List D → Mem → Prop} {M : Mem} (g : α → D) (f : α → D) (hok : ok M) (l : List α)
    (h : ∀ a ∈ l, ∀ (C : D → Mem → Prop), C (f a) M → te (r0.set j (some (g a))) M C) (hl : l.length ≤ sizeLine) (q : k (l.map f) M) : lcGo ok j r0 dYes te (l.map g) M [] k :=
  lcGo_pure g (fun a => some (f a)) hok l [] (fun a ha C _ hC => h a ha C hC) (by simpa using hl) (by rw [List.filterMap_eq_map']; exact q)
end DL
namespace DL
open PySem L2
/-- the most nodes of a drawn term -/
def bigOf (A : Nat) : Nat → Nat
  | 0 => 1
  | k + 1 => 1 + A * bigOf A k
theorem size_big {f : Str} {ts : List Tm} {A k : Nat} (hl : ts.length ≤ A) (h : ∀ t ∈ ts, t.size ≤ bigOf A k) : (Tm.app f ts).size ≤ bigOf A (k + 1) := by
  have h1 := Tm.sizes_le h
  have h2 := Nat.mul_le_mul_right (bigOf A k) hl
  rw [Tm.size_app]
  show _ ≤ 1 + A * bigOf A k
  omega
structure FitB (ss : List Sg) (t : Tm) : Prop where
  nm : t.Nm (fun f => f ∈ ss.map Sg.nm)
  ok : t.Nm NameOk
  deep : t.deep ≤ 200
  size : t.size ≤ 1000
theorem FitB.arg {ss : List Sg} {f : Str} {ts : List Tm} (h : FitB ss (.app f ts)) {t : Tm} (ht : t ∈ ts) : FitB ss t := by
  have h3 := h.deep
  have h4 := h.size
  rw [Tm.deep_app] at h3
  rw [Tm.size_app] at h4
  have := Tm.deep_mem ht
  have := Tm.size_mem ht
  exact ⟨h.nm.arg t ht, h.ok.arg t ht, by omega, by omega⟩
theorem FitB.argd {ss : List Sg} {f : Str} {ts : List Tm} (h : FitB ss (.app f ts)) {t : Tm} (ht : t ∈ ts) : t.deep ≤ 199 := by
  have h3 := h.deep
  rw [Tm.deep_app] at h3
  have := Tm.deep_mem ht
  omega
theorem GoodSigns.rev {ss : List Sg} (h : GoodSigns ss) : GoodSigns ss.reverse where
  names := fun s hs => h.names s (List.mem_reverse.mp hs)
  nd := by rw [List.map_reverse]; exact (List.reverse_perm _).nodup_iff.mpr h.nd
  ar := fun s hs => h.ar s (List.mem_reverse.mp hs)
  wt := fun s hs => h.wt s (List.mem_reverse.mp hs)
  len := by rw [List.length_reverse]; exact h.len
  has := fun k hk => by obtain ⟨s, h1, h2⟩ := h.has k hk; exact ⟨s, List.mem_reverse.mpr h1, h2⟩
theorem Over.sub {ss ss' : List Sg} {vs vs' : List Int} {t : Tm} (h : Over ss vs t) (h1 : ∀ s ∈ ss, s ∈ ss') (h2 : ∀ v ∈ vs, v ∈ vs') : Over ss' vs' t := by
  induction h with
  | var hi => exact .var (h2 _ hi)
  | app hs hl _ ih => exact .app (h1 _ hs) hl ih
theorem Over.rev {ss : List Sg} {vs : List Int} {t : Tm} (h : Over ss vs t) : Over ss.reverse vs t := h.sub (fun s hs => List.mem_reverse.mpr hs) fun _ h => h
theorem wtOf_mem {ss : List Sg} (hnd : (ss.map Sg.nm).Nodup) {s : Sg} (hs : s ∈ ss) : wtOf s.nm ss = s.wt := by
  induction ss with
  | nil => cases hs
  | cons g ss ih =>
    rw [List.map_cons, List.nodup_cons] at hnd
    unfold wtOf
    rcases List.mem_cons.mp hs with rfl | hs
    · rw [if_pos rfl]
    · rw [if_neg fun e => hnd.1 (by rw [e]; exact List.mem_map_of_mem hs)]
      exact ih hnd.2 hs
theorem wts_le {ss : List Sg} {ts : List Tm} (h : ∀ t ∈ ts, t.size ≤ t.wt ss ∧ t.wt ss ≤ 9 * t.size) : Tm.sizes ts ≤ Tm.wts ss ts ∧ Tm.wts ss ts ≤ 9 * Tm.sizes ts := by
  induction ts with
  | nil => rw [Tm.sizes_nil, Tm.wts_nil]; omega
  | cons t ts ih =>
    rw [Tm.sizes_cons, Tm.wts_cons]
    have h1 := h t (List.mem_cons_self ..)
    have h2 := ih fun u hu => h u (List.mem_cons_of_mem _ hu)
    omega
theorem Over.wts {ss : List Sg} {vs : List Int} {t : Tm} (h : Over ss vs t) (hs : GoodSigns ss) : t.size ≤ t.wt ss ∧ t.wt ss ≤ 9 * t.size := by
  induction h with
  | var _ => rw [Tm.size_var, Tm.wt_var]; omega
  | app hm hl _ ih =>
    have h1 := wts_le ih
    rw [Tm.size_app, Tm.wt_app, wtOf_mem hs.nd hm]
    have := hs.wt _ hm
    omega
theorem Over.fitB {ss : List Sg} {vs : List Int} {t : Tm} (h : Over ss vs t) (hs : GoodSigns ss) (hz : t.wt ss ≤ 200) : FitB ss t := by
  have h1 := (h.wts hs).1
  have h2 := t.deep_size
  exact ⟨h.among, h.nm hs, by omega, by omega⟩
theorem wts_at {ss : List Sg} {f : Str} (h : f ∈ ss.map Sg.nm) : atI ((ss.filter fun s => decide (s.nm = f)).map fun s => D.int (s.wt : Nat)) 0 = some (.int (wtOf f ss : Nat)) := by
  induction ss with
  | nil => cases h
  | cons s ss ih =>
    unfold wtOf
    by_cases e : s.nm = f
    · rw [if_pos e, List.filter_cons, decide_eq_true e, if_pos rfl, List.map_cons]
      exact atI_0
    · rw [if_neg e, List.filter_cons, decide_eq_false e, if_neg (by decide)]
      rw [List.map_cons] at h
      rcases List.mem_cons.mp h with h | h
      · exact absurd h.symm e
      · exact ih h
theorem rank_find {ss : List Sg} {f : Str} (h : f ∈ ss.map Sg.nm) : (ss.map fun s => D.str s.nm).findIdx? (fun d => eqD d (.str f)) = some (rankOf f ss) := by
  induction ss with
  | nil => cases h
  | cons s ss ih =>
    unfold rankOf
    rw [List.map_cons, List.findIdx?_cons]
    by_cases e : s.nm = f
    · rw [if_pos e, show eqD (.str s.nm) (.str f) = true by rw [e]; simp [eqD]]
      rfl
    · rw [if_neg e, show eqD (.str s.nm) (.str f) = false by simp [eqD, e]]
      rw [List.map_cons] at h
      rcases List.mem_cons.mp h with h | h
      · exact absurd h.symm e
      · rw [ih h]
        rfl
end DL
namespace DL
open PySem L2
noncomputable def diffs : Nat → List Tm → List Tm → List Nat
  | i, t :: ts, u :: us => if t = u then diffs (i + 1) ts us else i :: diffs (i + 1) ts us
  | _, _, _ => []
theorem diffs_nil (i : Nat) : diffs i [] [] = [] := by unfold diffs; rfl
theorem diffs_snoc {a b : Tm} : ∀ {i : Nat} {ts us : List Tm}, ts.length = us.length → diffs i (ts ++ [a]) (us ++ [b]) = diffs i ts us ++ (if a = b then [] else [i + ts.length])
  | i, [], [], _ => by
    rw [List.nil_append, List.nil_append, diffs_nil, List.nil_append]
    unfold diffs
    split
    · rw [diffs_nil]
    · rw [diffs_nil]; rfl
  | i, [], _ :: _, h => by cases h
  | i, _ :: _, [], h => by cases h
  | i, t :: ts, u :: us, h => by
    rw [List.cons_append, List.cons_append]
    have ih := diffs_snoc (a := a) (b := b) (i := i + 1) (ts := ts) (us := us) (by simpa using h)
    unfold diffs
    rw [ih, List.length_cons, show i + 1 + ts.length = i + (ts.length + 1) by omega]
    split
    · rfl
    · rfl
theorem diffs_len : ∀ (i : Nat) (ts us : List Tm), (diffs i ts us).length ≤ ts.length
  | i, [], us => by unfold diffs; simp
  | i, t :: ts, [] => by unfold diffs; simp
  | i, t :: ts, u :: us => by
    unfold diffs
    have := diffs_len (i + 1) ts us
    split
    · rw [List.length_cons]; omega
    · rw [List.length_cons, List.length_cons]; omega
theorem diffs_first : ∀ {i : Nat} {ts us : List Tm} {p : Tm × Tm}, unlike ts us = some p → ∃ j r, diffs i ts us = (i + j) :: r ∧ ts[j]? = some p.1 ∧ us[j]? = some p.2
  | i, [], us, p, h => by unfold unlike at h; cases us <;> cases h
  | i, t :: ts, [], p, h => by unfold unlike at h; cases h
  | i, t :: ts, u :: us, p, h => by
    rw [unlike_cons] at h
    unfold diffs
    by_cases e : t = u
    · rw [if_pos e] at h ⊢
      obtain ⟨j, r, h1, h2, h3⟩ := diffs_first (i := i + 1) h
      exact ⟨j + 1, r, by rw [h1, show i + 1 + j = i + (j + 1) by omega], h2, h3⟩
    · rw [if_neg e] at h ⊢
      cases h
      exact ⟨0, _, rfl, rfl, rfl⟩
theorem Over.arg {ss : List Sg} {vs : List Int} {f : Str} {ts : List Tm} (h : Over ss vs (.app f ts)) : ∀ t ∈ ts, Over ss vs t := by
  cases h with
  | app _ _ h => exact h
end DL
namespace DL
open PySem L2
theorem qNeB_bb {M : Mem} {a b : Bool} {Q : QD} : qNeB (.bl a) (.bl b) M Q = Q (.bl (!(a == b))) M := by
  have e : ∀ c : Bool, py M (.bl c) = some (.bool c) := fun c => by unfold py pyG; rfl
  unfold qNeB eqQB
  rw [e, e]
  simp only [PyData.canLay0, PyData.depth, PyData.eqv]
  simp
theorem qNeB_b1 {M : Mem} {a : Bool} {Q : QD} (h : Q (.bl false) M) : qNeB (.bl a) (.bl a) M Q := by
  rw [qNeB_bb, show (a == a) = true by cases a <;> rfl]
  exact h
theorem qEqB_same {M : Mem} {x : Str} {Q : QD} (hx : NameOk x) (k : Q (.bl true) M) : qEqB (.str x) (.str x) M Q :=
  qEqB_pl (pl_name hx) (pl_name hx) (.inl (by unfold dep; omega)) fun b hb => by rw [hb.mpr rfl]; exact k
end DL
namespace DL
open PySem L2
/-- [sign for sign in signs if sign[1] == c] -/
theorem lcGo_ar {ok : Mem → Prop} {j c : Nat} {r0 : Rho} {k : List D → Mem → Prop} {M : Mem} {ss : List Sg} (hj : j < r0.length) (hok : ok M) (hl : ss.length ≤ sizeLine) (q : k ((ss.filter fun s => decide (s.ar = c)).map Sg.d) M) :
    lcGo ok j r0 (dTest (dBin qEq (dBin qIx (dVar j) (dC (.int 1))) (dC (.int (c : Nat))))) (dVar j) (ss.map Sg.d) M [] k := by
  refine lcGo_pure Sg.d (fun s => if s.ar = c then some s.d else none) hok ss [] (fun s _ C N h => ?_) (by simpa using hl) ?_
  · have e : (r0.set j (some s.d))[j]? = some (some s.d) := List.getElem?_set_self hj
    have hgd : s.d = .tup [.str s.nm, .int s.ar, .int s.wt] := rfl
    have e1 : atI [D.str s.nm, .int s.ar, .int s.wt] 1 = some (.int s.ar) := atI_1
    unfold dTest dBin dVar dC
    simp only [e]
    rw [hgd]
    simp only [qIx, e1]
    rw [qEq_ii]
    by_cases h0 : s.ar = c
    · rw [decide_eq_true (by omega)]
      rw [if_pos h0] at h
      exact h
    · rw [decide_eq_false (by omega)]
      rw [if_neg h0] at h
      exact h
  · have : ss.filterMap (fun s => if s.ar = c then some s.d else none) = (ss.filter fun s => decide (s.ar = c)).map Sg.d := by
      clear hl q
      induction ss with
      | nil => rfl
      | cons s ss ih =>
        by_cases h0 : s.ar = c
        · rw [List.filterMap_cons_some (by rw [if_pos h0]), List.filter_cons, decide_eq_true h0, if_pos rfl, List.map_cons, ih]
        · rw [List.filterMap_cons_none (by rw [if_neg h0]), List.filter_cons, decide_eq_false h0, if_neg (by decide), ih]
    rw [this]
    exact q
theorem GoodSigns.pick {ss : List Sg} (h : GoodSigns ss) {c : Nat} (hc : c ≤ 2) : ∃ g ∈ ss, g.ar = c ∧ atI ((ss.filter fun s => decide (s.ar = c)).map Sg.d) 0 = some (.tup [.str g.nm, .int g.ar, .int g.wt]) := by
  obtain ⟨g, h1, h2⟩ := h.has c hc
  have hm : g ∈ ss.filter fun s => decide (s.ar = c) := List.mem_filter.mpr ⟨h1, decide_eq_true h2⟩
  cases e : ss.filter fun s => decide (s.ar = c) with
  | nil => rw [e] at hm; cases hm
  | cons a l =>
    have ha : a ∈ ss.filter fun s => decide (s.ar = c) := by rw [e]; exact List.mem_cons_self ..
    have := List.mem_filter.mp ha
    exact ⟨a, this.1, of_decide_eq_true this.2, atI_0⟩
theorem Over.app1 {ss : List Sg} {vs : List Int} {g : Sg} {t : Tm} (hg : g ∈ ss) (ha : g.ar = 1) (h : Over ss vs t) : Over ss vs (.app g.nm [t]) :=
  .app hg (by rw [ha]; rfl) fun u hu => by rw [List.mem_singleton.mp hu]; exact h
theorem Over.app2 {ss : List Sg} {vs : List Int} {g : Sg} {t u : Tm} (hg : g ∈ ss) (ha : g.ar = 2) (h : Over ss vs t) (h' : Over ss vs u) : Over ss vs (.app g.nm [t, u]) :=
  .app hg (by rw [ha]; rfl) fun x hx => by
    simp only [List.mem_cons, List.not_mem_nil, or_false] at hx
    rcases hx with rfl | rfl
    · exact h
    · exact h'
theorem wt_app1 {ss : List Sg} {g : Sg} {t : Tm} (hs : GoodSigns ss) (hg : g ∈ ss) : (Tm.app g.nm [t]).wt ss = g.wt + t.wt ss := by
  rw [Tm.wt_app, wtOf_mem hs.nd hg, Tm.wts_cons, Tm.wts_nil]; rfl
theorem wt_app2 {ss : List Sg} {g : Sg} {t u : Tm} (hs : GoodSigns ss) (hg : g ∈ ss) : (Tm.app g.nm [t, u]).wt ss = g.wt + (t.wt ss + u.wt ss) := by
  rw [Tm.wt_app, wtOf_mem hs.nd hg, Tm.wts_cons, Tm.wts_cons, Tm.wts_nil]; rfl
theorem d_app1 {g : Sg} {t : Tm} : (Tm.app g.nm [t]).d = .tup [.str g.nm, t.d] := Tm.d_app ..
theorem d_app2 {g : Sg} {t u : Tm} : (Tm.app g.nm [t, u]).d = .tup [.str g.nm, t.d, u.d] := Tm.d_app ..
end DL
namespace DL
open PySem L2
theorem cnt_ok (x : Int) (N : Nat) (p : Prop) [Decidable p] : ∃ c : Nat, x % (1 + (N : Int)) * (if p then 1 else 0) = (c : Int) ∧ c ≤ N := by
  have h1 := Int.emod_nonneg x (b := 1 + (N : Int)) (by omega)
  have h2 := Int.emod_lt_of_pos x (b := 1 + (N : Int)) (by omega)
  refine ⟨(x % (1 + (N : Int))).toNat * (if p then 1 else 0), ?_, ?_⟩
  · split
    · rw [Int.mul_one, Nat.mul_one, Int.toNat_of_nonneg h1]
    · rw [Int.mul_zero, Nat.mul_zero]; rfl
  · split <;> omega
theorem cmul_if (x : Int) (p : Prop) [Decidable p] : CMul x (if p then 1 else 0) := .inr (by split <;> omega)
theorem div_ok {mx w : Nat} (h1 : mx ≤ 200) : ∃ N : Nat, (200 - (mx : Int)) / (w : Int) = (N : Int) ∧ N * w + mx ≤ 200 := by
  refine ⟨(200 - mx) / w, ?_, ?_⟩
  · rw [show (200 : Int) - (mx : Int) = ((200 - mx : Nat) : Int) by omega]
    rfl
  · have := Nat.div_mul_le_self (200 - mx) w
    omega
theorem max_ok {a b n : Nat} (h1 : a ≤ n) (h2 : b ≤ n) : ∃ mx : Nat, (if (b : Int) > (a : Int) then (b : Int) else (a : Int)) = (mx : Int) ∧ a ≤ mx ∧ b ≤ mx ∧ mx ≤ n := by
  by_cases h : b > a
  · exact ⟨b, by rw [if_pos (by omega)], by omega, Nat.le_refl _, h2⟩
  · exact ⟨a, by rw [if_neg (by omega)], Nat.le_refl _, by omega, h1⟩
theorem cnt7_ok (x : Int) (p : Prop) [Decidable p] : ∃ c : Nat, x % 7 * (if p then 1 else 0) = (c : Int) ∧ c ≤ 6 ∧ (¬ p → c = 0) := by
  obtain ⟨c, h1, h2⟩ := cnt_ok x 6 p
  refine ⟨c, h1, h2, fun h => ?_⟩
  have h1' : x % 7 * (if p then 1 else 0) = (c : Int) := h1
  rw [if_neg h, Int.mul_zero] at h1'
  omega
end DL
namespace DL
open PySem L2
theorem wts_same {ss ss' : List Sg} {ts : List Tm} (h : ∀ t ∈ ts, t.wt ss = t.wt ss') : Tm.wts ss ts = Tm.wts ss' ts := by
  induction ts with
  | nil => rw [Tm.wts_nil, Tm.wts_nil]
  | cons t ts ih => rw [Tm.wts_cons, Tm.wts_cons, h t (List.mem_cons_self ..), ih fun u hu => h u (List.mem_cons_of_mem _ hu)]
theorem Over.wt_rev {ss : List Sg} {vs : List Int} {t : Tm} (hs : GoodSigns ss) (h : Over ss vs t) : t.wt ss.reverse = t.wt ss := by
  induction h with
  | var _ => rw [Tm.wt_var, Tm.wt_var]
  | app hm hl _ ih => rw [Tm.wt_app, Tm.wt_app, wtOf_mem hs.nd hm, wtOf_mem hs.rev.nd (List.mem_reverse.mpr hm), wts_same ih]
end DL
/-! list(zip(a, b)) of two tuples, of two lists -/
namespace DL
open PySem PySem.Spec PyProof.Rows RZ PySem.W
section
variable {prog : Program} {w : World} {A : Around} {E : Value → Shared → Prop} {s : Shared}
theorem zipT_item_held {z TI TO T i1 i2 l1 l2 : Addr} {f : Bool} {oT : Obj} {k1 k2 : Nat} {xs ys : Array Value} {x y : Value} {Q : Value → Shared → Prop} (D : ZipApart z TI TO i1 i2 l1 l2)
    (hz : IsZipHeld s.heap z TI TO T f) (hT : s.heap.get? T = some oT) (hTI : IsPair s.heap TI (.ref i1) (.ref i2))
    (h1 : s.heap.IsTupleIter i1 l1 k1) (h2 : s.heap.IsTupleIter i2 l2 k2) (hl1 : s.heap.IsTuple l1 xs) (hl2 : s.heap.IsTuple l2 ys) (hx : xs[k1]? = some x) (hy : ys[k2]? = some y)
    (hQ : ∀ h', IsZipHeld h' z TI TO T true → h'.IsTupleIter i1 l1 (k1 + 1) → h'.IsTupleIter i2 l2 (k2 + 1) → IsPair h' s.heap.objs.size x y → h'.objs.size = s.heap.objs.size + 1 →
      (∀ c o, c ≠ z → c ≠ i1 → c ≠ i2 → s.heap.get? c = some o → h'.get? c = some o) → Q (.ref s.heap.objs.size) { s with heap := h' }) :
    wpAny (model prog w) A (Builtin.«zip.__next__» ⟨[.ref z], []⟩) (fun fin s' => ∃ v, fin = .done (.ret v) ∧ Q v s') E s := by
  show wpAny _ _ (field (.ref z) 2 >>= _) _ _ _
  refine wpAny_bind (wpAny_field hz rfl (x := .bool false) rfl ?_)
  show wpAny _ _ (field (.ref z) 3 >>= _) _ _ _
  refine wpAny_bind (wpAny_field hz rfl (x := .ref TI) rfl ?_)
  refine wpAny_bind (wpAny_seqItems hTI rfl ?_)
  show wpAny _ _ (Builtin.SmallTypes.ownedTupleIsFree (.ref z) >>= _) _ _ _
  refine wpAny_bind (wpAny_tupleHeld_zip hz hT fun h₁ hz₁ hs₁ => ?_)
  simp only [Bool.false_eq_true, if_false]
  refine wpAny_bind ?_
  rw [← Array.forIn_toList]
  simp only [List.forIn_cons, List.forIn_nil]
  refine wpAny_bind (wpAny_bind (wpAny_holding ?_))
  show wpAny _ _ (Builtin.SmallTypes.nextOf (.ref i1) >>= _) _ _ _
  refine wpAny_bind (nextOf_tuple_item (s := { s with heap := h₁ }) (h1.extBut hs₁.extBut D.i1z) (hl1.extBut hs₁.extBut D.l1z) hx fun h₂ h1₂ hs₂ => wpAny_pure ?_)
  refine wpAny_pure ?_
  refine wpAny_bind (wpAny_bind (wpAny_holding ?_))
  show wpAny _ _ (Builtin.SmallTypes.nextOf (.ref i2) >>= _) _ _ _
  refine wpAny_bind (nextOf_tuple_item (s := { s with heap := h₂ }) ((h2.extBut hs₁.extBut D.i2z).extBut hs₂.extBut D.i12.symm) ((hl2.extBut hs₁.extBut D.l2z).extBut hs₂.extBut D.l2i1) hy fun h₃ h2₃ hs₃ => wpAny_pure ?_)
  refine wpAny_pure (wpAny_pure ?_)
  show wpAny _ _ (newTuple [x, y] >>= _) _ _ _
  refine wpAny_bind (wpAny_newTuple ?_)
  have hsz : h₃.objs.size = s.heap.objs.size := by rw [hs₃.1, hs₂.1, hs₁.1]
  have hz₃ : IsZipHeld h₃ z TI TO T true := hs₃.extBut _ _ D.i2z.symm (hs₂.extBut _ _ D.i1z.symm hz₁)
  have hk : ∀ c o, c ≠ z → c ≠ i1 → c ≠ i2 → s.heap.get? c = some o → h₃.get? c = some o := fun c o c1 c2 c3 e => hs₃.extBut _ _ c3 (hs₂.extBut _ _ c2 (hs₁.extBut _ _ c1 e))
  have h1₃ : h₃.IsTupleIter i1 l1 (k1 + 1) := h1₂.extBut hs₃.extBut D.i12
  refine wpAny_pure ⟨_, rfl, ?_⟩
  show Q (.ref h₃.objs.size) _
  have hp : IsPair (h₃.push { cls := .type "tuple", data := .seq #[x, y] }) h₃.objs.size x y := Heap.get?_push_size _ rfl
  have hz4 : (h₃.push { cls := .type "tuple", data := .seq #[x, y] }).objs.size = h₃.objs.size + 1 := Heap.size_push ..
  rw [hsz] at hp hz4 ⊢
  exact hQ _ (Heap.get?_push_of_some _ hz₃) (h1₃.at fun o e => Heap.get?_push_of_some _ e) (h2₃.at fun o e => Heap.get?_push_of_some _ e) hp hz4 fun c o c1 c2 c3 e => Heap.get?_push_of_some _ (hk c o c1 c2 c3 e)
theorem zipT_end_held {z TI TO T i1 i2 l1 l2 : Addr} {f : Bool} {oT : Obj} {k1 k2 : Nat} {xs ys : Array Value} {Q : Fin → Shared → Prop} (hh : A.handled = none) (D : ZipApart z TI TO i1 i2 l1 l2)
    (hz : IsZipHeld s.heap z TI TO T f) (hT : s.heap.get? T = some oT) (hTI : IsPair s.heap TI (.ref i1) (.ref i2))
    (h1 : s.heap.IsTupleIter i1 l1 k1) (h2 : s.heap.IsTupleIter i2 l2 k2) (hl1 : s.heap.IsTuple l1 xs) (hl2 : s.heap.IsTuple l2 ys) (hend : xs[k1]? = none ∨ ys[k2]? = none)
    (hE : ∀ h' e, (∀ c o, c ≠ z → c ≠ i1 → c ≠ i2 → s.heap.get? c = some o → h'.get? c = some o) → (∃ o, h'.get? e = some o ∧ o.cls = .type "StopIteration") → E (.ref e) { s with heap := h' }) :
    wpAny (model prog w) A (Builtin.«zip.__next__» ⟨[.ref z], []⟩) Q E s := by
  show wpAny _ _ (field (.ref z) 2 >>= _) _ _ _
  refine wpAny_bind (wpAny_field hz rfl (x := .bool false) rfl ?_)
  show wpAny _ _ (field (.ref z) 3 >>= _) _ _ _
  refine wpAny_bind (wpAny_field hz rfl (x := .ref TI) rfl ?_)
  refine wpAny_bind (wpAny_seqItems hTI rfl ?_)
  show wpAny _ _ (Builtin.SmallTypes.ownedTupleIsFree (.ref z) >>= _) _ _ _
  refine wpAny_bind (wpAny_tupleHeld_zip hz hT fun h₁ hz₁ hs₁ => ?_)
  simp only [Bool.false_eq_true, if_false]
  refine wpAny_bind ?_
  rw [← Array.forIn_toList]
  simp only [List.forIn_cons, List.forIn_nil]
  refine wpAny_bind (wpAny_bind (wpAny_holding ?_))
  show wpAny _ _ (Builtin.SmallTypes.nextOf (.ref i1) >>= _) _ _ _
  cases hx : xs[k1]? with
  | none =>
    refine wpAny_bind (nextOf_tuple_end (s := { s with heap := h₁ }) hh (h1.extBut hs₁.extBut D.i1z) (hl1.extBut hs₁.extBut D.l1z) hx fun h₂ e hs₂ he => ?_)
    exact hE h₂ e (fun c o c1 c2 _ x => hs₂ _ _ c2 (hs₁.extBut _ _ c1 x)) he
  | some x =>
    have hy : ys[k2]? = none := by rcases hend with h | h; rw [hx] at h; cases h; exact h
    refine wpAny_bind (nextOf_tuple_item (s := { s with heap := h₁ }) (h1.extBut hs₁.extBut D.i1z) (hl1.extBut hs₁.extBut D.l1z) hx fun h₂ h1₂ hs₂ => wpAny_pure ?_)
    refine wpAny_pure ?_
    refine wpAny_bind (wpAny_bind (wpAny_holding ?_))
    show wpAny _ _ (Builtin.SmallTypes.nextOf (.ref i2) >>= _) _ _ _
    refine wpAny_bind (nextOf_tuple_end (s := { s with heap := h₂ }) hh ((h2.extBut hs₁.extBut D.i2z).extBut hs₂.extBut D.i12.symm) ((hl2.extBut hs₁.extBut D.l2z).extBut hs₂.extBut D.l2i1) hy fun h₃ e hs₃ he => ?_)
    exact hE h₃ e (fun c o c1 c2 c3 x => hs₃ _ _ c3 (hs₂.extBut _ _ c2 (hs₁.extBut _ _ c1 x))) he
theorem pyNext_zipT_item_held {z TI TO T i1 i2 l1 l2 : Addr} {f : Bool} {oT : Obj} {k1 k2 : Nat} {xs ys : Array Value} {x y : Value} {Q : Option Value → Shared → Prop} (D : ZipApart z TI TO i1 i2 l1 l2)
    (hz : IsZipHeld s.heap z TI TO T f) (hT : s.heap.get? T = some oT) (hTI : IsPair s.heap TI (.ref i1) (.ref i2))
    (h1 : s.heap.IsTupleIter i1 l1 k1) (h2 : s.heap.IsTupleIter i2 l2 k2) (hl1 : s.heap.IsTuple l1 xs) (hl2 : s.heap.IsTuple l2 ys) (hx : xs[k1]? = some x) (hy : ys[k2]? = some y)
    (hQ : ∀ h', IsZipHeld h' z TI TO T true → h'.IsTupleIter i1 l1 (k1 + 1) → h'.IsTupleIter i2 l2 (k2 + 1) → IsPair h' s.heap.objs.size x y → h'.objs.size = s.heap.objs.size + 1 →
      (∀ c o, c ≠ z → c ≠ i1 → c ≠ i2 → s.heap.get? c = some o → h'.get? c = some o) → Q (some (.ref s.heap.objs.size)) { s with heap := h' }) :
    wpAny (model prog w) A (pyNext (.ref z)) Q E s := by
  have hTy : s.TypeIs (.ref z) "zip" := ⟨_, hz, rfl⟩
  unfold pyNext
  exact wpAny_bind (wpAny_attempt (wpAny_callSpecial?_slot (name := Str.ofString "__next__") hTy F.slot_zip_next
    (wpAny_call_entry F.slot_zip_next hTy F.entry_zip_next
      (zipT_item_held D hz hT hTI h1 h2 hl1 hl2 hx hy fun h' a1 a3 a4 a5 a6 a7 => wpAny_pure (hQ h' a1 a3 a4 a5 a6 a7)) (F.args_zip_next_1 _))))
theorem pyNext_zipT_end_held {z TI TO T i1 i2 l1 l2 : Addr} {f : Bool} {oT : Obj} {k1 k2 : Nat} {xs ys : Array Value} {Q : Option Value → Shared → Prop} (hh : A.handled = none) (D : ZipApart z TI TO i1 i2 l1 l2)
    (hz : IsZipHeld s.heap z TI TO T f) (hT : s.heap.get? T = some oT) (hTI : IsPair s.heap TI (.ref i1) (.ref i2))
    (h1 : s.heap.IsTupleIter i1 l1 k1) (h2 : s.heap.IsTupleIter i2 l2 k2) (hl1 : s.heap.IsTuple l1 xs) (hl2 : s.heap.IsTuple l2 ys) (hend : xs[k1]? = none ∨ ys[k2]? = none)
    (hQ : ∀ h', (∀ c o, c ≠ z → c ≠ i1 → c ≠ i2 → s.heap.get? c = some o → h'.get? c = some o) → Q none { s with heap := h' }) : wpAny (model prog w) A (pyNext (.ref z)) Q E s := by
  have hTy : s.TypeIs (.ref z) "zip" := ⟨_, hz, rfl⟩
  unfold pyNext
  refine wpAny_bind (wpAny_attempt (wpAny_callSpecial?_slot (name := Str.ofString "__next__") hTy F.slot_zip_next
    (wpAny_call_entry F.slot_zip_next hTy F.entry_zip_next (zipT_end_held hh D hz hT hTI h1 h2 hl1 hl2 hend fun h' e hk he => ?_) (F.args_zip_next_1 _))))
  obtain ⟨o, ho, hc⟩ := he
  refine wpAny_bind (wpAny_isInstance (T := "StopIteration") (b := true) ⟨o, ho, hc⟩ isSubtype_stop ?_)
  exact wpAny_pure (hQ _ hk)
/-- a zip that is drawn from: St i, behind i draws; S: the list that is being made -/
structure ZW (prog : Program) (w : World) (z : Addr) (ch : List Addr) (S : Addr) (n : Nat) (X Y : Nat → Value) (St : Nat → Heap → Prop) : Prop where
  obj : ∀ i h, St i h → ∃ f TI TO b, h.get? z = some { cls := .type "zip", dict := none, data := .fields #[f, .bool b, .bool false, .ref TI, .ref TO], slots := #[] }
  item : ∀ (A : Around) (s : Shared) (E : Value → Shared → Prop) (Q : Option Value → Shared → Prop) (i : Nat), i < n → St i s.heap →
    (∀ h', St (i + 1) h' → IsPair h' s.heap.objs.size (X i) (Y i) → h'.objs.size = s.heap.objs.size + 1 → (∀ c o, c ∉ ch → s.heap.get? c = some o → h'.get? c = some o) → Q (some (.ref s.heap.objs.size)) { s with heap := h' }) →
    wpAny (model prog w) A (pyNext (.ref z)) Q E s
  done : ∀ (A : Around) (s : Shared) (E : Value → Shared → Prop) (Q : Option Value → Shared → Prop), A.handled = none → St n s.heap → (∀ h', (∀ c o, c ∉ ch → s.heap.get? c = some o → h'.get? c = some o) → Q none { s with heap := h' }) →
    wpAny (model prog w) A (pyNext (.ref z)) Q E s
  lt : ∀ i h, St i h → ∀ c ∈ ch, c < h.objs.size
  keep : ∀ i h h', St i h → (∀ b o, b ≠ S → h.get? b = some o → h'.get? b = some o) → (∃ o, h'.get? S = some o) → St i h'
theorem zw_tup {z TI TO i1 i2 l1 l2 S : Addr} {xs ys : Array Value} {n : Nat} {X Y : Nat → Value} (D : ZipApart z TI TO i1 i2 l1 l2) (hS : S ≠ z ∧ S ≠ TI ∧ S ≠ TO ∧ S ≠ i1 ∧ S ≠ i2 ∧ S ≠ l1 ∧ S ≠ l2)
    (hx : ∀ i, i < n → xs[i]? = some (X i)) (hy : ∀ i, i < n → ys[i]? = some (Y i)) (he : xs[n]? = none ∨ ys[n]? = none) :
    ZW prog w z [z, TO, i1, i2] S n X Y (fun i h => (IsZip h z TI TO .none ∨ ∃ T f oT, IsZipHeld h z TI TO T f ∧ h.get? T = some oT ∧ T ≠ z ∧ T ≠ TO ∧ T ≠ i1 ∧ T ≠ i2 ∧ T ≠ S) ∧
      (∃ a b, IsPair h TO a b) ∧ IsPair h TI (.ref i1) (.ref i2) ∧ h.IsTupleIter i1 l1 i ∧ h.IsTupleIter i2 l2 i ∧ h.IsTuple l1 xs ∧ h.IsTuple l2 ys ∧ ∃ o, h.get? S = some o) where
  obj := fun i h st => by
    rcases st.1 with h | ⟨T, f, oT, h, _⟩
    · exact ⟨_, _, _, _, h⟩
    · exact ⟨_, _, _, _, h⟩
  item := fun A s E Q i hi st hQ => by
    obtain ⟨hz, ⟨a, b, hTO⟩, hTI, h1, h2, hl1, hl2, oS, hSs⟩ := st
    have TOlt : TO < s.heap.objs.size := Heap.lt_size hTO
    have zlt : z < s.heap.objs.size := by
      rcases hz with h | ⟨T, f, oT, h, _⟩ <;> exact Heap.lt_size h
    have TIlt : TI < s.heap.objs.size := Heap.lt_size hTI
    have Slt : S < s.heap.objs.size := Heap.lt_size hSs
    have i1lt : i1 < s.heap.objs.size := by obtain ⟨_, e, _⟩ := h1; exact Heap.lt_size e
    have i2lt : i2 < s.heap.objs.size := by obtain ⟨_, e, _⟩ := h2; exact Heap.lt_size e
    have hl1k : ∀ {h' : Heap}, (∀ c o, c ≠ z → c ≠ TO → c ≠ i1 → c ≠ i2 → s.heap.get? c = some o → h'.get? c = some o) → h'.IsTuple l1 xs ∧ h'.IsTuple l2 ys ∧ IsPair h' TI (.ref i1) (.ref i2) ∧ h'.get? S = some oS := fun {h'} hk => by
      obtain ⟨o1, e1, r1⟩ := hl1
      obtain ⟨o2, e2, r2⟩ := hl2
      exact ⟨⟨o1, hk _ _ D.l1z D.l1TO D.l1i1 D.l1i2 e1, r1⟩, ⟨o2, hk _ _ D.l2z D.l2TO D.l2i1 D.l2i2 e2, r2⟩, hk _ _ D.TIz D.TITO D.TIi1 D.TIi2 hTI, hk _ _ hS.1 hS.2.2.1 hS.2.2.2.1 hS.2.2.2.2.1 hSs⟩
    rcases hz with hz | ⟨T, f, oT, hz, hT, t1, t2, t3, t4, t5⟩
    · refine pyNext_zipT_item D hz hTI hTO h1 h2 hl1 hl2 (hx i hi) (hy i hi) fun h' z' TO' h1' h2' hT hsz hk => hQ h' ?_ hT hsz fun c o hc e => ?_
      · obtain ⟨q1, q2, q3, q4⟩ := hl1k hk
        exact ⟨.inr ⟨_, _, _, z', hT, Nat.ne_of_gt zlt, Nat.ne_of_gt TOlt, Nat.ne_of_gt i1lt, Nat.ne_of_gt i2lt, Nat.ne_of_gt Slt⟩, ⟨_, _, TO'⟩, q3, h1', h2', q1, q2, _, q4⟩
      · simp only [List.mem_cons, List.not_mem_nil, or_false, not_or] at hc
        exact hk c o hc.1 hc.2.1 hc.2.2.1 hc.2.2.2 e
    · refine pyNext_zipT_item_held D hz hT hTI h1 h2 hl1 hl2 (hx i hi) (hy i hi) fun h' z' h1' h2' hT' hsz hk => hQ h' ?_ hT' hsz fun c o hc e => ?_
      · obtain ⟨q1, q2, q3, q4⟩ := hl1k fun c o c1 _ c3 c4 e => hk c o c1 c3 c4 e
        exact ⟨.inr ⟨T, _, _, z', hk _ _ t1 t3 t4 hT, t1, t2, t3, t4, t5⟩, ⟨_, _, hk _ _ D.TOz D.TOi1 D.TOi2 hTO⟩, q3, h1', h2', q1, q2, _, q4⟩
      · simp only [List.mem_cons, List.not_mem_nil, or_false, not_or] at hc
        exact hk c o hc.1 hc.2.2.1 hc.2.2.2 e
  done := fun A s E Q hh st hQ => by
    obtain ⟨hz, ⟨a, b, hTO⟩, hTI, h1, h2, hl1, hl2, oS, hSs⟩ := st
    rcases hz with hz | ⟨T, f, oT, hz, hT, t1, t2, t3, t4, t5⟩
    · refine pyNext_zipT_end hh D hz hTI hTO h1 h2 hl1 hl2 he fun h' hk => hQ h' fun c o hc e => ?_
      simp only [List.mem_cons, List.not_mem_nil, or_false, not_or] at hc
      exact hk c o hc.1 hc.2.1 hc.2.2.1 hc.2.2.2 e
    · refine pyNext_zipT_end_held hh D hz hT hTI h1 h2 hl1 hl2 he fun h' hk => hQ h' fun c o hc e => ?_
      simp only [List.mem_cons, List.not_mem_nil, or_false, not_or] at hc
      exact hk c o hc.1 hc.2.2.1 hc.2.2.2 e
  lt := fun i h st c hc => by
    obtain ⟨hz, ⟨a, b, hTO⟩, hTI, h1, h2, hl1, hl2, oS, hSs⟩ := st
    simp only [List.mem_cons, List.not_mem_nil, or_false] at hc
    rcases hc with rfl | rfl | rfl | rfl
    · rcases hz with h | ⟨T, f, oT, h, _⟩ <;> exact Heap.lt_size h
    · exact Heap.lt_size hTO
    · obtain ⟨_, e, _⟩ := h1; exact Heap.lt_size e
    · obtain ⟨_, e, _⟩ := h2; exact Heap.lt_size e
  keep := fun i h h' st hk hSo => by
    obtain ⟨hz, ⟨a, b, hTO⟩, hTI, h1, h2, hl1, hl2, _⟩ := st
    obtain ⟨o1, e1, r1⟩ := hl1
    obtain ⟨o2, e2, r2⟩ := hl2
    refine ⟨?_, ⟨a, b, hk _ _ hS.2.2.1.symm hTO⟩, hk _ _ hS.2.1.symm hTI, h1.at fun o e => hk _ _ hS.2.2.2.1.symm e, h2.at fun o e => hk _ _ hS.2.2.2.2.1.symm e, ⟨o1, hk _ _ hS.2.2.2.2.2.1.symm e1, r1⟩, ⟨o2, hk _ _ hS.2.2.2.2.2.2.symm e2, r2⟩, hSo⟩
    rcases hz with hz | ⟨T, f, oT, hz, hT, t1, t2, t3, t4, t5⟩
    · exact .inl (hk _ _ hS.1.symm hz)
    · exact .inr ⟨T, f, oT, hk _ _ hS.1.symm hz, hk _ _ t5 hT, t1, t2, t3, t4, t5⟩
theorem zw_lst {z TI TO i1 i2 l1 l2 S : Addr} {xs ys : Array Value} {n : Nat} {X Y : Nat → Value} (D : ZipApart z TI TO i1 i2 l1 l2) (hS : S ≠ z ∧ S ≠ TI ∧ S ≠ TO ∧ S ≠ i1 ∧ S ≠ i2 ∧ S ≠ l1 ∧ S ≠ l2)
    (hx : ∀ i, i < n → xs[i]? = some (X i)) (hy : ∀ i, i < n → ys[i]? = some (Y i)) (he : xs[n]? = none ∨ ys[n]? = none) :
    ZW prog w z [z, TO, i1, i2] S n X Y (fun i h => (IsZip h z TI TO .none ∨ ∃ T f oT, IsZipHeld h z TI TO T f ∧ h.get? T = some oT ∧ T ≠ z ∧ T ≠ TO ∧ T ≠ i1 ∧ T ≠ i2 ∧ T ≠ S) ∧
      (∃ a b, IsPair h TO a b) ∧ IsPair h TI (.ref i1) (.ref i2) ∧ h.IsListIter i1 l1 i ∧ h.IsListIter i2 l2 i ∧ h.IsList l1 xs ∧ h.IsList l2 ys ∧ ∃ o, h.get? S = some o) where
  obj := fun i h st => by
    rcases st.1 with h | ⟨T, f, oT, h, _⟩
    · exact ⟨_, _, _, _, h⟩
    · exact ⟨_, _, _, _, h⟩
  item := fun A s E Q i hi st hQ => by
    obtain ⟨hz, ⟨a, b, hTO⟩, hTI, h1, h2, hl1, hl2, oS, hSs⟩ := st
    have TOlt : TO < s.heap.objs.size := Heap.lt_size hTO
    have zlt : z < s.heap.objs.size := by
      rcases hz with h | ⟨T, f, oT, h, _⟩ <;> exact Heap.lt_size h
    have TIlt : TI < s.heap.objs.size := Heap.lt_size hTI
    have Slt : S < s.heap.objs.size := Heap.lt_size hSs
    have i1lt : i1 < s.heap.objs.size := by obtain ⟨_, e, _⟩ := h1; exact Heap.lt_size e
    have i2lt : i2 < s.heap.objs.size := by obtain ⟨_, e, _⟩ := h2; exact Heap.lt_size e
    have hl1k : ∀ {h' : Heap}, (∀ c o, c ≠ z → c ≠ TO → c ≠ i1 → c ≠ i2 → s.heap.get? c = some o → h'.get? c = some o) → h'.IsList l1 xs ∧ h'.IsList l2 ys ∧ IsPair h' TI (.ref i1) (.ref i2) ∧ h'.get? S = some oS := fun {h'} hk => by
      obtain ⟨o1, e1, r1⟩ := hl1
      obtain ⟨o2, e2, r2⟩ := hl2
      exact ⟨⟨o1, hk _ _ D.l1z D.l1TO D.l1i1 D.l1i2 e1, r1⟩, ⟨o2, hk _ _ D.l2z D.l2TO D.l2i1 D.l2i2 e2, r2⟩, hk _ _ D.TIz D.TITO D.TIi1 D.TIi2 hTI, hk _ _ hS.1 hS.2.2.1 hS.2.2.2.1 hS.2.2.2.2.1 hSs⟩
    rcases hz with hz | ⟨T, f, oT, hz, hT, t1, t2, t3, t4, t5⟩
    · refine wpAny_pyNext_zip_item D hz hTI hTO h1 h2 hl1 hl2 (hx i hi) (hy i hi) fun h' z' TO' h1' h2' hT hsz hk => hQ h' ?_ hT hsz fun c o hc e => ?_
      · obtain ⟨q1, q2, q3, q4⟩ := hl1k hk
        exact ⟨.inr ⟨_, _, _, z', hT, Nat.ne_of_gt zlt, Nat.ne_of_gt TOlt, Nat.ne_of_gt i1lt, Nat.ne_of_gt i2lt, Nat.ne_of_gt Slt⟩, ⟨_, _, TO'⟩, q3, h1', h2', q1, q2, _, q4⟩
      · simp only [List.mem_cons, List.not_mem_nil, or_false, not_or] at hc
        exact hk c o hc.1 hc.2.1 hc.2.2.1 hc.2.2.2 e
    · refine wpAny_pyNext_zip_item_held D hz hT hTI h1 h2 hl1 hl2 (hx i hi) (hy i hi) fun h' z' h1' h2' hT' hsz hk => hQ h' ?_ hT' hsz fun c o hc e => ?_
      · obtain ⟨q1, q2, q3, q4⟩ := hl1k fun c o c1 _ c3 c4 e => hk c o c1 c3 c4 e
        exact ⟨.inr ⟨T, _, _, z', hk _ _ t1 t3 t4 hT, t1, t2, t3, t4, t5⟩, ⟨_, _, hk _ _ D.TOz D.TOi1 D.TOi2 hTO⟩, q3, h1', h2', q1, q2, _, q4⟩
      · simp only [List.mem_cons, List.not_mem_nil, or_false, not_or] at hc
        exact hk c o hc.1 hc.2.2.1 hc.2.2.2 e
  done := fun A s E Q hh st hQ => by
    obtain ⟨hz, ⟨a, b, hTO⟩, hTI, h1, h2, hl1, hl2, oS, hSs⟩ := st
    rcases hz with hz | ⟨T, f, oT, hz, hT, t1, t2, t3, t4, t5⟩
    · refine wpAny_pyNext_zip_end hh D hz hTI hTO h1 h2 hl1 hl2 he fun h' hk => hQ h' fun c o hc e => ?_
      simp only [List.mem_cons, List.not_mem_nil, or_false, not_or] at hc
      exact hk c o hc.1 hc.2.1 hc.2.2.1 hc.2.2.2 e
    · refine wpAny_pyNext_zip_end_held hh D hz hT hTI h1 h2 hl1 hl2 he fun h' hk => hQ h' fun c o hc e => ?_
      simp only [List.mem_cons, List.not_mem_nil, or_false, not_or] at hc
      exact hk c o hc.1 hc.2.2.1 hc.2.2.2 e
  lt := fun i h st c hc => by
    obtain ⟨hz, ⟨a, b, hTO⟩, hTI, h1, h2, hl1, hl2, oS, hSs⟩ := st
    simp only [List.mem_cons, List.not_mem_nil, or_false] at hc
    rcases hc with rfl | rfl | rfl | rfl
    · rcases hz with h | ⟨T, f, oT, h, _⟩ <;> exact Heap.lt_size h
    · exact Heap.lt_size hTO
    · obtain ⟨_, e, _⟩ := h1; exact Heap.lt_size e
    · obtain ⟨_, e, _⟩ := h2; exact Heap.lt_size e
  keep := fun i h h' st hk hSo => by
    obtain ⟨hz, ⟨a, b, hTO⟩, hTI, h1, h2, hl1, hl2, _⟩ := st
    obtain ⟨o1, e1, r1⟩ := hl1
    obtain ⟨o2, e2, r2⟩ := hl2
    refine ⟨?_, ⟨a, b, hk _ _ hS.2.2.1.symm hTO⟩, hk _ _ hS.2.1.symm hTI, h1.at fun o e => hk _ _ hS.2.2.2.1.symm e, h2.at fun o e => hk _ _ hS.2.2.2.2.1.symm e, ⟨o1, hk _ _ hS.2.2.2.2.2.1.symm e1, r1⟩, ⟨o2, hk _ _ hS.2.2.2.2.2.2.symm e2, r2⟩, hSo⟩
    rcases hz with hz | ⟨T, f, oT, hz, hT, t1, t2, t3, t4, t5⟩
    · exact .inl (hk _ _ hS.1.symm hz)
    · exact .inr ⟨T, f, oT, hk _ _ hS.1.symm hz, hk _ _ t5 hT, t1, t2, t3, t4, t5⟩
end
end DL
namespace DL
open PySem PySem.Spec PyProof.Rows RT RZ PySem.W L2
theorem zip_no_len : typeLookup (.type "zip") "__len__" = pure none := by rw [typeLookup_type, builtinLookup_eq_fast]; kernel_rfl
theorem zip_no_hint : typeLookup (.type "zip") "__length_hint__" = pure none := by rw [typeLookup_type, builtinLookup_eq_fast]; kernel_rfl
theorem zip_iter {prog : Program} {w : World} {A : Around} {E : Value → Shared → Prop} {s : Shared} {z TI TO : Addr} {f0 : Value} {b : Bool} {Q : Value → Shared → Prop} (hz : s.heap.get? z = some { cls := .type "zip", dict := none, data := .fields #[f0, .bool b, .bool false, .ref TI, .ref TO], slots := #[] }) (h : Q (.ref z) s) : wpAny (model prog w) A (pyIter (.ref z)) Q E s := by
  have hT : s.TypeIs (.ref z) "zip" := ⟨_, hz, rfl⟩
  refine wpAny_pyIter_slot hT F.slot_zip_iter (wpAny_call_entry F.slot_zip_iter hT F.entry_zip_iter ?_ (F.args_zip_iter_1 _))
  show wpAny _ _ (ret (.ref z)) _ _ s
  exact wpAny_pure ⟨_, rfl, "zip", _, hT, F.slot_zip_next.lookup, h⟩
/-- the pairs that a list holds -/
def PairsAt (H : Hp) (vs : List V) (xs ys : List V) (n : Nat) : Prop := vs.length = n ∧ ∀ j, j < n → ∃ T x y, vs[j]? = some (.ref T) ∧ H T = some (.tup [x, y]) ∧ xs[j]? = some x ∧ ys[j]? = some y
section
variable {X : Cx} {A : Around} {pins : List (Addr × Obj)} {σ : L2.St} {R : Result → Shared → Prop}
theorem zip_loop {z S : Addr} {ch : List Addr} {n : Nat} {Xv Yv : Nat → Value} {St : Nat → Heap → Prop} (Z : ZW X.prog X.w z ch S n Xv Yv St) {xs ys : List V} (hX : ∀ i, i < n → ∃ x, xs[i]? = some x ∧ RelV x (Xv i)) (hY : ∀ i, i < n → ∃ y, ys[i]? = some y ∧ RelV y (Yv i))
    (hh : A.handled = none) (hS : S ∉ ch) (hn : n ≤ sizeLine) (res : Value) (H0 : Hp) (h0 : H0 S = none) :
    ∀ (k i : Nat) (s : Shared) (H : Hp) (acc : Array Value) (c : Nat) (vs : List V), n - i = k → i ≤ n → Inv X pins σ H s → (∀ b ∈ ch, FpOk X pins H b) → St i s.heap → s.heap.get? S = some { cls := .type "list", dict := none, data := .seq acc c, slots := #[] } →
    H S = some (.lst vs) → Vals vs acc.toList → PairsAt H vs xs ys i → (∀ b o, H0 b = some o → H b = some o) →
    (∀ s' H' vs', Inv X pins σ H' s' → H' S = some (.lst vs') → PairsAt H' vs' xs ys n → (∀ b o, H0 b = some o → H' b = some o) → R (.ok (.ret res)) s') →
    codeAny (model X.prog X.w) A (.builtin "list.extend.loop" ⟨[.ref S, .ref z, res], []⟩) R s := by
  intro k
  induction k with
  | zero =>
    intro i s H acc c vs hk hi I hf st hSs hHS hv hp h00 hR
    have hin : i = n := by omega
    subst hin
    refine codeAny_builtin F.entry_extend_loop ?_
    rw [Around.under_plainId F.plain_extend_loop _]
    show wpAny _ A.in1 (pyNext (.ref z) >>= _) _ _ s
    refine wpAny_bind (Z.done A.in1 s _ _ hh st fun h' hkp => ?_)
    exact wpAny_pure (hR _ H vs (I.turnedL (t' := s.toks) (ch := ch) hkp hf) hHS hp h00)
  | succ k ih =>
    intro i s H acc c vs hk hi I hf st hSs hHS hv hp h00 hR
    have hlt : i < n := by omega
    obtain ⟨x, ex, rx⟩ := hX i hlt
    obtain ⟨y, ey, ry⟩ := hY i hlt
    have hsz : acc.size = i := by rw [← hp.1, hv.length, Array.length_toList]
    refine codeAny_builtin F.entry_extend_loop ?_
    rw [Around.under_plainId F.plain_extend_loop _]
    show wpAny _ A.in1 (pyNext (.ref z) >>= _) _ _ s
    refine wpAny_bind (Z.item A.in1 s _ _ i hlt st fun h' st' hT hsz' hkp => ?_)
    have Slt : S < s.heap.objs.size := Heap.lt_size hSs
    have hSs' := hkp S _ hS hSs
    have new : ObjOk X.prog X.w (upd H s.heap.objs.size (.tup [x, y])) h' s.heap.objs.size (.tup [x, y]) :=
      ⟨by show 2 ≤ sizeLine; decide, [Xv i, Yv i], .cons rx (.cons ry .nil), ⟨_, hT, rfl, _, rfl⟩⟩
    have I1 : Inv X pins σ (upd H s.heap.objs.size (.tup [x, y])) { s with heap := h' } := I.turnedNew (t' := s.toks) (ch := ch) hkp hf (Nat.le_refl _) new
    have hTn : H s.heap.objs.size = none := I.hok.fresh (Nat.le_refl _)
    have hHS1 : upd H s.heap.objs.size (.tup [x, y]) S = some (.lst vs) := by rw [upd_ne (Nat.ne_of_lt Slt)]; exact hHS
    show wpAny _ A.in1 (updateSeq S (·.push (.ref s.heap.objs.size)) >>= _) _ _ _
    refine wpAny_bind ?_
    refine wpAny_updateSeq hSs' rfl (wpAny_pure ⟨plainId_quiet F.plain_extend_loop _, ?_⟩)
      (by rw [hsz]; omega) (by show (acc.push _).size ≤ sizeLine + 1; rw [Array.size_push, hsz]; omega)
    have hself := Heap.get?_update_self (Obj.mapSeq (·.push (Value.ref s.heap.objs.size))) hSs' rfl
    have hoth : ∀ b o, b ≠ S → h'.get? b = some o → (h'.update S (Obj.mapSeq (·.push (Value.ref s.heap.objs.size)))).get? b = some o := fun b o hb e => (Heap.get?_update_other _ _ (Ne.symm hb)).trans e
    have hv2 : Vals (vs ++ [V.ref s.heap.objs.size]) (acc.push (Value.ref s.heap.objs.size)).toList := by
      rw [Array.toList_push]
      exact hv.append (.cons rfl .nil)
    have new2 : ObjOk X.prog X.w (upd (upd H s.heap.objs.size (.tup [x, y])) S (.lst (vs ++ [V.ref s.heap.objs.size]))) (h'.update S (Obj.mapSeq (·.push (Value.ref s.heap.objs.size)))) S (.lst (vs ++ [V.ref s.heap.objs.size])) :=
      ⟨by rw [List.length_append, hp.1, List.length_singleton]; omega, _, _, hv2, by rw [Array.toArray_toList]; exact hself⟩
    have I2 := I1.write (t' := s.toks) (x := S) (e := S) (by rw [hHS1]; trivial) (.inl rfl) hoth ⟨_, hself⟩ new2
    refine ih (i + 1) _ _ (acc.push _) _ (vs ++ [V.ref s.heap.objs.size]) (by omega) hlt I2 (fun b hb => ?_) (Z.keep _ _ _ st' hoth ⟨_, hself⟩) hself upd_same hv2 ⟨?_, fun j hj => ?_⟩ (fun b o e => ?_) hR
    · have hb1 := hf b hb
      have hbS : b ≠ S := fun e => hS (e ▸ hb)
      have hbT : b ≠ s.heap.objs.size := Nat.ne_of_lt (Z.lt i _ st b hb)
      exact ⟨by rw [upd_ne hbS, upd_ne hbT]; exact hb1.1, hb1.2⟩
    · rw [List.length_append, hp.1]; rfl
    · by_cases hji : j < i
      · obtain ⟨T, x', y', e1, e2, e3, e4⟩ := hp.2 j hji
        refine ⟨T, x', y', by rw [List.getElem?_append_left (by rw [hp.1]; exact hji)]; exact e1, ?_, e3, e4⟩
        have hTS : T ≠ S := fun e => by rw [e, hHS] at e2; cases e2
        rw [upd_ne hTS, upd_ne (ne_of_none e2 hTn)]
        exact e2
      · have hje : j = i := by omega
        subst hje
        refine ⟨s.heap.objs.size, x, y, by rw [List.getElem?_append_right (by rw [hp.1]; omega), hp.1]; simp, ?_, ex, ey⟩
        rw [upd_ne (Nat.ne_of_gt Slt), upd_same]
    · have hbS : b ≠ S := fun z => by rw [z, h0] at e; cases e
      have e' := h00 b o e
      rw [upd_ne hbS, upd_ne (ne_of_none e' hTn)]
      exact e'
/-- list(z) -/
theorem call_list_zip {z : Addr} {ch : List Addr} {n : Nat} {Xv Yv : Nat → Value} {s : Shared} {H : Hp} {St : Nat → Heap → Prop} {xs ys : List V} {Q : Value → Shared → Prop} {E : Value → Shared → Prop} (hh : A.handled = none)
    (Z : ZW X.prog X.w z ch s.heap.objs.size n Xv Yv St) (hX : ∀ i, i < n → ∃ x, xs[i]? = some x ∧ RelV x (Xv i)) (hY : ∀ i, i < n → ∃ y, ys[i]? = some y ∧ RelV y (Yv i)) (hn : n ≤ sizeLine)
    (I : Inv X pins σ H s) (hf : ∀ b ∈ ch, FpOk X pins H b) (hfl : ∀ b ∈ ch, b < s.heap.objs.size) (hzl : z < s.heap.objs.size) (st : St 0 (s.heap.push { cls := .type "list", data := .seq #[] }))
    (hQ : ∀ s' H' vs', Inv X pins σ H' s' → H' s.heap.objs.size = some (.lst vs') → PairsAt H' vs' xs ys n → (∀ b o, H b = some o → H' b = some o) → Q (.ref s.heap.objs.size) s') :
    wpAny (model X.prog X.w) A (call (.type "list") [.ref z]) Q E s := by
  refine callType_codes (Q₁ := fun obj s₁ => obj = .ref s.heap.objs.size ∧ s₁ = { s with heap := s.heap.push { cls := .type "list", data := .seq #[] } }) F.called_list (F.typeCall_list_1 _) F.entry_list_init
    (code_list_new _ ⟨rfl, rfl⟩) fun obj s₁ h₁ => ?_
  obtain ⟨rfl, rfl⟩ := h₁
  have hS : (s.heap.push { cls := .type "list", data := .seq #[] }).get? s.heap.objs.size = some { cls := .type "list", data := .seq #[] } := Heap.get?_push_size _ rfl
  refine ⟨⟨_, hS, rfl⟩, F.args_list_init_2 _ _, ?_⟩
  have hSch : s.heap.objs.size ∉ ch := fun h => Nat.lt_irrefl _ (hfl _ h)
  have hSz : s.heap.objs.size ≠ z := Nat.ne_of_gt hzl
  have hH0 : H s.heap.objs.size = none := I.hok.fresh (Nat.le_refl _)
  have I1 : Inv X pins σ (upd H s.heap.objs.size (.lst [])) { s with heap := s.heap.push { cls := .type "list", data := .seq #[] } } :=
    I.laid (t' := s.toks) (fun b u e => Heap.get?_push_of_some _ e) (Nat.le_refl _) ⟨Nat.zero_le _, [], 0, .nil, hS⟩
  generalize hS0 : s.heap.objs.size = S at *
  have hhB : A.in1.handled = none := hh
  generalize A.in1 = A at hhB
  show wpAny _ A.in1 (do let old ← Builtin.List.listItems (.ref S); Builtin.List.listUpdate (.ref S) (fun _ => #[]); letGo old.toList.reverse; Builtin.List.listExtendWith (.ref S) (.ref z) .none) _ _ _
  refine wpAny_bind ?_
  unfold Builtin.List.listItems
  refine wpAny_bind (wpAny_seqItems hS rfl (wpAny_pure ?_))
  show wpAny _ _ (updateSeq S (fun _ => #[]) >>= fun _ => letGo (#[] : Array Value).toList.reverse >>= fun _ => Builtin.List.listExtendWith (.ref S) (.ref z) .none) _ _ _
  refine wpAny_bind (wpAny_updateSeq hS rfl ?_)
  have hS₂ := Heap.get?_update_self (Obj.mapSeq (fun _ => (#[] : Array Value))) hS rfl
  refine wpAny_bind (wpAny_letGo ?_)
  have wr : ∀ {h1 h2 : Heap} {c1 : Nat}, Inv X pins σ (upd H S (.lst [])) { s with heap := h1 } → St 0 h1 → (∀ b o, b ≠ S → h1.get? b = some o → h2.get? b = some o) → h2.get? S = some { cls := .type "list", dict := none, data := .seq #[] c1, slots := #[] } →
      Inv X pins σ (upd H S (.lst [])) { s with heap := h2 } ∧ St 0 h2 := fun {h1 h2 c1} J st k e => by
    have := J.write (t' := s.toks) (x := S) (e := S) (by rw [upd_same]; trivial) (.inl rfl) k ⟨_, e⟩ (show ObjOk X.prog X.w (upd (upd H S (.lst [])) S (.lst [])) h2 S (.lst []) from ⟨Nat.zero_le _, [], c1, .nil, e⟩)
    have eq : upd (upd H S (.lst [])) S (.lst []) = upd H S (.lst []) := by
      funext b
      by_cases hb : b = S
      · rw [hb, upd_same, upd_same]
      · rw [upd_ne hb]
    rw [eq] at this
    exact ⟨this, Z.keep _ _ _ st k ⟨_, e⟩⟩
  obtain ⟨I2, st2⟩ := wr I1 st (fun b o hb e => (Heap.get?_update_other _ _ (Ne.symm hb)).trans e) hS₂
  obtain ⟨zf, zTI, zTO, zb, hzo⟩ := Z.obj _ _ st2
  have hT : ({ s with heap := (s.heap.push { cls := .type "list", data := .seq #[] }).update S (Obj.mapSeq (fun _ => (#[] : Array Value))) } : Shared).TypeIs (.ref z) "zip" := ⟨_, hzo, rfl⟩
  have h1 : Builtin.List.listSameRef (.ref S) (.ref z) = false := by simp [Builtin.List.listSameRef, hSz]
  unfold Builtin.List.listExtendWith
  refine wpAny_bind (wpAny_typeOf hT ?_)
  rw [if_neg (by rw [h1]; decide)]
  refine wpAny_bind (zip_iter hzo ?_)
  refine wpAny_bind (wpAny_holding ?_)
  unfold Builtin.List.listLengthHint
  refine wpAny_bind (wpAny_specialOf hT zip_no_len ?_)
  show wpAny _ A.in1 (specialOf (Value.ref z) (Str.ofString "__length_hint__") >>= _) _ _ _
  refine wpAny_bind (wpAny_specialOf hT zip_no_hint ?_)
  refine wpAny_pure ?_
  show wpAny _ A.in1 (rule "list.extend.makes-room" >>= fun _ => Builtin.List.listTouch (.ref S) >>= fun _ =>
    again (.builtin "list.extend.loop" ⟨[.ref S, .ref z, .none], []⟩)) _ _ _
  refine wpAny_bind (wpAny_rule ?_)
  refine wpAny_bind ?_
  show wpAny _ A.in1 (updateSeq S (·.push .none) >>= fun _ => updateSeq S (·.pop)) _ _ _
  refine wpAny_bind (wpAny_updateSeq hS₂ rfl ?_)
  have hS₃ := Heap.get?_update_self (Obj.mapSeq (·.push Value.none)) hS₂ rfl
  refine wpAny_updateSeq (hz := by seq_fits) hS₃ rfl ?_
  have hS₄ := Heap.get?_update_self (Obj.mapSeq (·.pop)) hS₃ rfl
  obtain ⟨I3, st3⟩ := wr I2 st2 (fun b o hb e => (Heap.get?_update_other _ _ (Ne.symm hb)).trans ((Heap.get?_update_other _ _ (Ne.symm hb)).trans e)) hS₄
  refine wpAny_pure ⟨plainId_quiet F.plain_extend_loop _, zip_loop Z hX hY hhB hSch hn .none H hH0 n 0 _ _ _ _ [] (Nat.sub_zero _) (Nat.zero_le _) I3 (fun b hb => ?_) st3 hS₄ upd_same .nil ⟨rfl, fun j hj => absurd hj (Nat.not_lt_zero _)⟩ (fun b o e => ?_) fun s' H' vs' J a1 a2 a3 => ⟨rfl, hQ s' H' vs' J a1 a2 a3⟩⟩
  · have hb1 := hf b hb
    have hbS : b ≠ S := fun e => hSch (by rw [← e]; exact hb)
    exact ⟨by rw [upd_ne hbS]; exact hb1.1, hb1.2⟩
  · rw [upd_ne (ne_of_none e hH0)]; exact e
end
end DL
namespace DL
open PySem PySem.Spec PyProof.Rows L2 RT RZ
/-- list(zip(a, b)): a list of pairs -/
def tListZip (K : PySem.W.Frag) (ta : TA) : TE := fun σ H Q => ta σ H fun vs H1 => ∃ a b xs ys, vs = [.ref a, .ref b] ∧ ((SqL K H1 a xs ∧ SqL K H1 b ys) ∨ (SqT K H1 a xs ∧ SqT K H1 b ys)) ∧
  ∀ q H2 vs', H1 q = none → H2 q = some (.lst vs') → PairsAt H2 vs' xs ys (min xs.length ys.length) → (∀ b o, H1 b = some o → H2 b = some o) → Q (.ref q) H2
theorem apart7 {N a b : Nat} (la : a < N) (lb : b < N) : N + 5 ≠ N + 4 ∧ N + 5 ≠ N + 2 ∧ N + 5 ≠ N + 3 ∧ N + 5 ≠ N ∧ N + 5 ≠ N + 1 ∧ N + 5 ≠ a ∧ N + 5 ≠ b := by omega
section
variable {X : Cx}
theorem pe_listZip {e e2 : Expr} {ta : TA} {p p2 pos pos2 : Pos} (hc : X.calm = true) (hg : Gl X "list") (hm : X.mg "list" = none) (hg2 : Gl X "zip") (hm2 : X.mg "zip" = none) (ha : PA X [e, e2] ta)
    (hs : starEach [e, e2] X.env = (false, eval e X.env) :: starEach [e2] X.env := by rfl) (hpl : (backTo pos2 (starEach [e2] X.env)).any (·.1) = false := by rfl)
    (hs2 : starEach [.Call (.Name "zip" p2) [e, e2] [] pos2] X.env = (false, eval (.Call (.Name "zip" p2) [e, e2] [] pos2) X.env) :: starEach [] X.env := by rfl) :
    PE X (.Call (.Name "list" p) [.Call (.Name "zip" p2) [e, e2] [] pos2] [] pos) (tListZip X.K ta) := by
  refine ⟨fun pins s σ H Q I h => ?_⟩
  refine Call_ (ld_blt I hg hm boot_list (PyProof.Rows.callWith_type1 (args_cons (Call_ (ld_blt I hg2 hm2 PyProof.Rows.boot_zip (PyProof.Rows.callWith_type1 (thn (ha.run pos2 pins s σ H _ I h) fun us s1 ⟨vs, H1, I1, r1, q1⟩ => ?_) hs hpl))) hs2) hs2 rfl))
  obtain ⟨a, b, xs, ys, ex, q0, q1⟩ := q1
  subst ex
  cases r1 with
  | cons r rr =>
    cases rr with
    | cons r' rr =>
      cases rr
      cases r
      cases r'
      have fresh5 : ∀ c, c ∈ [s1.heap.objs.size + 4, s1.heap.objs.size + 3, s1.heap.objs.size, s1.heap.objs.size + 1] → FpOk X pins H1 c := fun c hcm => by
        simp only [List.mem_cons, List.not_mem_nil, or_false] at hcm
        have hle : s1.heap.objs.size ≤ c := by rcases hcm with z | z | z | z <;> (rw [z]; omega)
        exact I1.fpOk hle (I1.hok.fresh hle)
      rcases q0 with ⟨hqx, hqy⟩ | ⟨hqx, hqy⟩
      · obtain ⟨its, rv, p1, z1⟩ := I1.list hqx
        obtain ⟨its2, rv2, p2, z2⟩ := I1.list hqy
        have hl1 := rv.length
        have hl2 := rv2.length
        have la := p1.lt
        have lb := p2.lt
        refine call_zip_2 p1.isList p2.isList fun h' hz hTI hTO h1 h2 hsz hk => args_nil ?_
        have I2 : Inv X pins σ H1 { s1 with heap := h' } := I1.kept (t' := s1.toks) hk
        have D := PySem.W.ktu_apart s1.heap.objs.size a b p1.lt p2.lt
        have eS : h'.objs.size = s1.heap.objs.size + 5 := hsz
        have Z := zw_lst (prog := X.prog) (w := X.w) (S := h'.objs.size) (xs := its.toArray) (ys := its2.toArray) (n := min xs.length ys.length) (X := fun i => its.toArray.getD i .none) (Y := fun i => its2.toArray.getD i .none) D (by rw [eS]; exact apart7 la lb)
          (fun i hi => by rw [Array.getElem?_eq_getElem (by rw [List.size_toArray]; omega)]; simp [Array.getD, show i < its.length by omega]) (fun i hi => by rw [Array.getElem?_eq_getElem (by rw [List.size_toArray]; omega)]; simp [Array.getD, show i < its2.length by omega])
          (by by_cases hle : xs.length ≤ ys.length
              · exact .inl (by simp; omega)
              · exact .inr (by simp; omega))
        have hX : ∀ i, i < min xs.length ys.length → ∃ x, xs[i]? = some x ∧ RelV x (its.toArray.getD i .none) := fun i hi => by
          obtain ⟨u, hu, ru⟩ := rv.get (List.getElem?_eq_getElem (show i < xs.length by omega))
          exact ⟨_, List.getElem?_eq_getElem (by omega), by rw [show its.toArray.getD i .none = u by have hi' : i < its.length := by omega
                                                                                                     rw [List.getElem?_eq_getElem hi'] at hu; injection hu with hu; simp [Array.getD, hi', hu]]; exact ru⟩
        have hY : ∀ i, i < min xs.length ys.length → ∃ y, ys[i]? = some y ∧ RelV y (its2.toArray.getD i .none) := fun i hi => by
          obtain ⟨u, hu, ru⟩ := rv2.get (List.getElem?_eq_getElem (show i < ys.length by omega))
          exact ⟨_, List.getElem?_eq_getElem (by omega), by rw [show its2.toArray.getD i .none = u by have hi' : i < its2.length := by omega
                                                                                                      rw [List.getElem?_eq_getElem hi'] at hu; injection hu with hu; simp [Array.getD, hi', hu]]; exact ru⟩
        refine call_list_zip (I1.ok.hd hc) Z hX hY (by omega) I2 fresh5 (fun c hcm => ?_) (by show s1.heap.objs.size + 4 < h'.objs.size; rw [eS]; omega) ?_ fun s' H' vs' J a1 a2 a3 => ?_
        · simp only [List.mem_cons, List.not_mem_nil, or_false] at hcm
          show c < h'.objs.size
          rw [eS]
          rcases hcm with z | z | z | z <;> (rw [z]; first | exact Nat.lt_add_of_pos_right (by decide) | exact Nat.add_lt_add_left (by decide) _)
        · exact ⟨.inl (Heap.get?_push_of_some _ hz), ⟨_, _, Heap.get?_push_of_some _ hTO⟩, Heap.get?_push_of_some _ hTI, h1.at fun o e => Heap.get?_push_of_some _ e, h2.at fun o e => Heap.get?_push_of_some _ e,
            ((p1.isList).at fun o e => Heap.get?_push_of_some _ (hk _ _ e)), ((p2.isList).at fun o e => Heap.get?_push_of_some _ (hk _ _ e)), _, Heap.get?_push_size _ rfl⟩
        · exact ⟨.ref h'.objs.size, H', J, rfl, q1 _ _ vs' (I2.hok.fresh (Nat.le_refl _)) a1 a2 a3⟩
      · obtain ⟨its, rv, p1, z1⟩ := I1.tuple hqx
        obtain ⟨its2, rv2, p2, z2⟩ := I1.tuple hqy
        have hl1 := rv.length
        have hl2 := rv2.length
        obtain ⟨o1, ho1, ro1⟩ := id p1
        obtain ⟨o2, ho2, ro2⟩ := id p2
        have la := Heap.lt_size ho1
        have lb := Heap.lt_size ho2
        refine call_zipT (show s1.heap.IsTuple a its.toArray from p1) (show s1.heap.IsTuple b its2.toArray from p2) fun h' hz hTI hTO h1 h2 hsz hk => args_nil ?_
        have I2 : Inv X pins σ H1 { s1 with heap := h' } := I1.kept (t' := s1.toks) hk
        have D := PySem.W.ktu_apart s1.heap.objs.size a b la lb
        have eS : h'.objs.size = s1.heap.objs.size + 5 := hsz
        have Z := zw_tup (prog := X.prog) (w := X.w) (S := h'.objs.size) (xs := its.toArray) (ys := its2.toArray) (n := min xs.length ys.length) (X := fun i => its.toArray.getD i .none) (Y := fun i => its2.toArray.getD i .none) D (by rw [eS]; exact apart7 la lb)
          (fun i hi => by rw [Array.getElem?_eq_getElem (by rw [List.size_toArray]; omega)]; simp [Array.getD, show i < its.length by omega]) (fun i hi => by rw [Array.getElem?_eq_getElem (by rw [List.size_toArray]; omega)]; simp [Array.getD, show i < its2.length by omega])
          (by by_cases hle : xs.length ≤ ys.length
              · exact .inl (by simp; omega)
              · exact .inr (by simp; omega))
        have hX : ∀ i, i < min xs.length ys.length → ∃ x, xs[i]? = some x ∧ RelV x (its.toArray.getD i .none) := fun i hi => by
          obtain ⟨u, hu, ru⟩ := rv.get (List.getElem?_eq_getElem (show i < xs.length by omega))
          exact ⟨_, List.getElem?_eq_getElem (by omega), by rw [show its.toArray.getD i .none = u by have hi' : i < its.length := by omega
                                                                                                     rw [List.getElem?_eq_getElem hi'] at hu; injection hu with hu; simp [Array.getD, hi', hu]]; exact ru⟩
        have hY : ∀ i, i < min xs.length ys.length → ∃ y, ys[i]? = some y ∧ RelV y (its2.toArray.getD i .none) := fun i hi => by
          obtain ⟨u, hu, ru⟩ := rv2.get (List.getElem?_eq_getElem (show i < ys.length by omega))
          exact ⟨_, List.getElem?_eq_getElem (by omega), by rw [show its2.toArray.getD i .none = u by have hi' : i < its2.length := by omega
                                                                                                      rw [List.getElem?_eq_getElem hi'] at hu; injection hu with hu; simp [Array.getD, hi', hu]]; exact ru⟩
        refine call_list_zip (I1.ok.hd hc) Z hX hY (by omega) I2 fresh5 (fun c hcm => ?_) (by show s1.heap.objs.size + 4 < h'.objs.size; rw [eS]; omega) ?_ fun s' H' vs' J a1 a2 a3 => ?_
        · simp only [List.mem_cons, List.not_mem_nil, or_false] at hcm
          show c < h'.objs.size
          rw [eS]
          rcases hcm with z | z | z | z <;> (rw [z]; first | exact Nat.lt_add_of_pos_right (by decide) | exact Nat.add_lt_add_left (by decide) _)
        · exact ⟨.inl (Heap.get?_push_of_some _ hz), ⟨_, _, Heap.get?_push_of_some _ hTO⟩, Heap.get?_push_of_some _ hTI, h1.at fun o e => Heap.get?_push_of_some _ e, h2.at fun o e => Heap.get?_push_of_some _ e,
            ⟨o1, Heap.get?_push_of_some _ (hk _ _ ho1), ro1⟩, ⟨o2, Heap.get?_push_of_some _ (hk _ _ ho2), ro2⟩, _, Heap.get?_push_size _ rfl⟩
        · exact ⟨.ref h'.objs.size, H', J, rfl, q1 _ _ vs' (I2.hok.fresh (Nat.le_refl _)) a1 a2 a3⟩
end
end DL
namespace DL
open PySem L2
section
variable {K : PySem.W.Frag} {m m' : List Addr} {H H' : Hp} {M : Mem}
theorem RM.up (r : RM K m H M) (k : ∀ b o, H b = some o → H' b = some o) : RM K m H' M where
  len := r.len
  nd := r.nd
  ob := fun n o e => by
    obtain ⟨a, ea, q⟩ := r.ob n o e
    exact ⟨a, ea, q.mono (List.prefix_refl _) (.of (fun b xs e => k _ _ e) fun b o u e => k _ _ e) fun u e => k _ _ e⟩
theorem RDs.of_get : ∀ {ds : List D} {vs : List V}, ds.length = vs.length → (∀ (j : Nat) (d : D) (v : V), ds[j]? = some d → vs[j]? = some v → RD K m H d v) → RDs K m H ds vs
  | [], [], _, _ => RDs.nil'
  | [], _ :: _, h, _ => by cases h
  | _ :: _, [], h, _ => by cases h
  | d :: ds, v :: vs, h, q => RDs.cons' (q 0 d v rfl rfl) (RDs.of_get (by simpa using h) fun j d' v' e1 e2 => q (j + 1) d' v' (by simpa using e1) (by simpa using e2))
theorem RDs.pairs {ds es : List D} {xs ys vs : List V} {p : Addr} (g : Grow m H m' H') (q1 : RDs K m H ds xs) (q2 : RDs K m H es ys) (hp : PairsAt H' vs xs ys (min xs.length ys.length)) : RDs K m' H' ((ds.zip es).map fun p => .tup [p.1, p.2]) vs := by
  have l1 := q1.length
  have l2 := q2.length
  refine RDs.of_get (by rw [List.length_map, List.length_zip, hp.1, l1, l2]) fun j d v e1 e2 => ?_
  have hj := (List.getElem?_eq_some_iff.mp e2).1
  rw [hp.1] at hj
  obtain ⟨T, x, y, a1, a2, a3, a4⟩ := hp.2 j hj
  rw [a1] at e2
  cases e2
  have hd : ds[j]? = some ds[j] := List.getElem?_eq_getElem (by omega)
  have he : es[j]? = some es[j] := List.getElem?_eq_getElem (by omega)
  rw [zip_get hd he] at e1
  cases e1
  obtain ⟨v1, b1, b2⟩ := q1.get hd
  obtain ⟨v2, c1, c2⟩ := q2.get he
  rw [a3] at b1
  rw [a4] at c1
  cases b1
  cases c1
  exact RD.tup' (SqT.of a2) (RDs.cons' (b2.grow g) (RDs.cons' (c2.grow g) RDs.nil'))
end
/-- list(zip(a, b)) -/
def dListZip (ta : DTA) : DTE := fun r M Q => ta r M fun xs M1 => match xs with
  | [.tup ds, .tup es] => Q (.loc M1.length) (M1 ++ [.lst ((ds.zip es).map fun p => .tup [p.1, p.2])])
  | [x, y] => (match lstD x M1, lstD y M1 with
    | some ds, some es => Q (.loc M1.length) (M1 ++ [.lst ((ds.zip es).map fun p => .tup [p.1, p.2])])
    | _, _ => False)
  | _ => False
section
variable {z : Zx} {pos : Pos} {ta : DTA} {e e2 : Expr}
theorem de_listZip {p p2 pos2 : Pos} (hc : z.X.calm = true) (hm : z.X.mg "list" = none) (hm2 : z.X.mg "zip" = none) (h : DA z [e, e2] ta) (hg : Gl z.X "list" := by rfl) (hg2 : Gl z.X "zip" := by rfl)
    (hs : starEach [e, e2] z.X.env = (false, eval e z.X.env) :: starEach [e2] z.X.env := by rfl) (hpl : (backTo pos2 (starEach [e2] z.X.env)).any (·.1) = false := by rfl)
    (hs2 : starEach [.Call (.Name "zip" p2) [e, e2] [] pos2] z.X.env = (false, eval (.Call (.Name "zip" p2) [e, e2] [] pos2) z.X.env) :: starEach [] z.X.env := by rfl) :
    DE z (.Call (.Name "list" p) [.Call (.Name "zip" p2) [e, e2] [] pos2] [] pos) (dListZip ta) := by
  obtain ⟨wa, pa, la⟩ := h
  refine ⟨_, pe_listZip hc hg hm hg2 hm2 pa hs hpl hs2, fun m r M σ H Q Qd s q t => la m r M σ H _ _ s q fun ds0 M1 m1 vs0 H1 q1 g1 r1 d1 => ?_⟩
  have fin : ∀ {ds es : List D} {xs ys : List V}, RDs z.X.K m1 H1 ds xs → RDs z.X.K m1 H1 es ys → Qd (.loc M1.length) (M1 ++ [.lst ((ds.zip es).map fun p => .tup [p.1, p.2])]) → ∀ q H2 vs', H1 q = none → H2 q = some (.lst vs') → PairsAt H2 vs' xs ys (min xs.length ys.length) → (∀ b o, H1 b = some o → H2 b = some o) → Q (.ref q) H2 := by
    intro ds es xs ys rx ry hq q H2 vs' hn hl hp hk
    have gr : Grow m1 H1 (m1 ++ [q]) H2 := ⟨List.prefix_append _ _, fun b hb hb' => by
      rcases List.mem_append.mp hb with h | h
      · exact absurd h hb'
      · rw [List.mem_singleton.mp h]; exact hn, fun b o e _ => hk _ _ e, fun b o u e => hk _ _ e, fun b xs e => hk _ _ e⟩
    have rm : RM z.X.K (m1 ++ [q]) H2 (M1 ++ [.lst ((ds.zip es).map fun p => .tup [p.1, p.2])]) := (r1.up hk).adopt (r1.not_mem hn) ⟨vs', hl, RDs.pairs (p := q) gr rx ry hp⟩
    refine t _ _ _ _ _ hq (g1.trans gr) rm ?_
    unfold RD
    exact ⟨q, rfl, by rw [← r1.len]; simp⟩
  split at q1
  · obtain ⟨v, w, rfl, dx, dy⟩ := d1.two_
    obtain ⟨a, xs, rfl, sx, rx⟩ := dx.tup_
    obtain ⟨b, ys, rfl, sy, ry⟩ := dy.tup_
    exact ⟨a, b, xs, ys, rfl, .inr ⟨sx, sy⟩, fin rx ry q1⟩
  · obtain ⟨v, w, rfl, dx, dy⟩ := d1.two_
    split at q1
    · rename_i e1 e2
      obtain ⟨a, xs, rfl, sx, rx⟩ := lst_of r1 dx e1
      obtain ⟨b, ys, rfl, sy, ry⟩ := lst_of r1 dy e2
      exact ⟨a, b, xs, ys, rfl, .inl ⟨sx, sy⟩, fin rx ry q1⟩
    · exact q1.elim
  · exact q1.elim
end
end DL
namespace DL
open PySem L2
/-! ### d.setdefault(k, x) -/
def rSetdD : V → List V → Hp → VK → Prop := fun x vs H Q => ∃ (a : Addr) (d : V) (kvs : List (Key × V)) (k : Key), x = .ref a ∧ vs = [kV k, d] ∧ H a = some (.dK kvs) ∧ kvs.length < sizeLine ∧
  (∀ v, valV kvs k = some v → Q v H) ∧ (valV kvs k = none → Q d (upd H a (.dK (putK kvs k d))))
theorem mt_setd {X : Cx} : MtR X "dict.setdefault" rSetdD := by
  intro pins s σ H x vs v us Q I rx rv h
  obtain ⟨a, d, kvs, k, rfl, rfl, ea, hl, q1, q2⟩ := h
  cases rx
  obtain ⟨u, w, rfl, ru, rw0⟩ := rv.two
  exact d_setd I ea ru rw0 hl (fun v hv w' s4 I4 rw' => ⟨v, _, I4, rw', q1 v hv⟩) fun hn w' s4 I4 rw' => ⟨d, _, I4, rw', q2 hn⟩
def mSetd : DRM := fun x xs M Q => match x with
  | .loc n => (match M[n]? with
    | some (.dic kvs) => (match xs with
      | [k, d] => (match keyD k with
        | some j => kvs.length < sizeLine ∧ (match valD kvs j with
          | some v => Q v M
          | none => Q d (M.set n (.dic (putD kvs j d))))
        | none => False)
      | _ => False)
    | _ => False)
  | _ => False
section
variable {z : Zx}
theorem dm_setd : DMt z "dict.setdefault" mSetd := by
  refine ⟨_, mt_setd, fun m M H x vs dx ds Q Qd r d1 d2 h t => ?_⟩
  unfold mSetd at h
  split at h
  · split at h
    · rename_i kvs e
      obtain ⟨a, ws, rfl, ea, s, q⟩ := r.dic d1 e
      split at h
      · obtain ⟨w, w2, rfl, rw', rw2⟩ := d2.two_
        split at h
        · rename_i j ej
          obtain ⟨hl, h⟩ := h
          refine ⟨a, w2, ws, j, rfl, by rw [key_ofD ej rw'], s, by rw [q.length]; exact hl, fun v hv => ?_, fun hn => ?_⟩
          · rcases q.val (k := j) with ⟨e1, e2⟩ | ⟨d', v', e1, e2, e3⟩
            · rw [hv] at e2; cases e2
            · rw [hv] at e2
              cases e2
              rw [e1] at h
              exact t _ _ _ _ _ h .refl r e3
          · rcases q.val (k := j) with ⟨e1, e2⟩ | ⟨d', v', e1, e2, e3⟩
            · rw [e1] at h
              exact put_dic r ea (by rw [s]; trivial) (q.put rw2) rw2 h t
            · rw [hn] at e2; cases e2
        · exact h.elim
      · exact h.elim
    · exact h.elim
  · exact h.elim
end
/-! ### for k in d -/
def keyItems (kvs : List (Key × D)) : List D := kvs.map fun kv => keyV kv.1
section
variable {K : PySem.W.Frag} {m m' : List Addr} {H H' : Hp} {M M' : Mem}
theorem RKV.keyAt {κ : Type} : ∀ {kvs : List (κ × D)} {ws : List (κ × V)} {i : Nat} {p : κ × D}, RKV K m H kvs ws → kvs[i]? = some p → ∃ v, ws[i]? = some (p.1, v)
  | [], _, i, p, _, e => by simp at e
  | q :: kvs, _, i, p, h, e => by
    obtain ⟨v, s, rfl, h1, h2⟩ := h
    cases i with
    | zero => simp at e; subst e; exact ⟨v, by simp⟩
    | succ i => simp at e; obtain ⟨w, ew⟩ := RKV.keyAt h2 e; exact ⟨w, by simpa using ew⟩
theorem itok_keys {a : Addr} {ob : Obj} {kvs : List (Key × D)} {ws : List (Key × V)} {n : Nat} (eh : H a = some (.frz ob (.dK ws))) (q : RKV K m H kvs ws) : ItOk K m H ⟨keyItems kvs, fun M => M[n]? = some (.fdic kvs)⟩ (Itk a ob ws) where
  go := fun i m' M' H' hi g r hk => by
    have hi' : i < ws.length := by
      rw [q.length]
      have : (keyItems kvs).length = kvs.length := List.length_map ..
      show i < kvs.length
      rw [← this]; exact hi
    exact ⟨g.frz _ _ _ eh, hi'⟩
  yld := fun i m' M' H' x H'' hi g r hk y => by
    obtain ⟨rfl, k, v, e1, rfl⟩ := y
    have hi' : i < kvs.length := by
      have : (keyItems kvs).length = kvs.length := List.length_map ..
      rw [← this]; exact hi
    obtain ⟨v2, e2⟩ := q.keyAt (List.getElem?_eq_getElem hi')
    rw [e1] at e2
    have ek : k = kvs[i].1 := by injection e2 with e2; exact congrArg Prod.fst e2
    refine ⟨keyV k, ?_, .inl rfl, ?_⟩
    · show (keyItems kvs)[i]? = _
      unfold keyItems
      rw [List.getElem?_map, List.getElem?_eq_getElem hi', ek]
      rfl
    · cases k with
      | inl i => exact RD.int'
      | inr x => exact RD.str'
  stop := fun m' M' H' g r hk => by
    refine ⟨g.frz _ _ _ eh, ?_⟩
    rw [q.length]
    show _ ≤ (keyItems kvs).length
    unfold keyItems
    rw [List.length_map]
    exact Nat.le_refl _
end
def dForD (i : Nat) (g : DTG) (tb : DTS) : DTS := fun D r M => match r[i]? with
  | some (some (.loc n)) => (match M[n]? with
    | some (.dic kvs) => forGo (fun M' => M'[n]? = some (.fdic kvs)) g tb
        { nx := fun r' M' => M'[n]? = some (.fdic kvs) ∧ D.nx r' (M'.set n (.dic kvs)), rt := fun d M' => M'[n]? = some (.fdic kvs) ∧ D.rt d (M'.set n (.dic kvs)), bk := fun r' M' => M'[n]? = some (.fdic kvs) ∧ D.bk r' (M'.set n (.dic kvs)), ct := fun r' M' => M'[n]? = some (.fdic kvs) ∧ D.ct r' (M'.set n (.dic kvs)) }
        (keyItems kvs) r (M.set n (.fdic kvs))
    | _ => False)
  | _ => False
section
variable {z : Zx} {pos : Pos}
theorem ds_forD (i : Nat) {tg : Expr} {x : Str} {px : Pos} {body : List Stmt} {g : DTG} {tb : DTS} (hp : PassesOwn (model z.X.prog z.X.w) z.X.A z.X.env z.X.xe) (hc : z.X.calm = true) (hg : DG z tg g) (hb : DSs z body tb)
    (hN : z.X.N[i]? = some x := by rfl) (hv : Vis z.X.env.scope x := by first | exact Or.inl rfl | exact Or.inr (Or.inl rfl) | exact Or.inr (Or.inr rfl)) (hd : (x == ("__debug__" : Str)) = false := by decide) (hcd : (x == ("__classdict__" : Str)) = false := by decide)
    (hs : ∀ y, foldedSetIterable (.Name x px) z.X.env y = pure y := by intro _; rfl) : DS z (.For tg (.Name x px) body [] pos) (dForD i g tb) := by
  obtain ⟨we, pe, le⟩ := de_var (z := z) (pos := px) i hN hv hd hcd
  obtain ⟨wg, pg, lg⟩ := hg
  obtain ⟨wb, pb, lb⟩ := hb
  refine ⟨_, ps_lock (ps_for hp hc (pi_keys pe) pg pb hs), fun m r M σ H E Dd s q l => ?_⟩
  unfold dForD at q
  split at q
  · rename_i n er
    split at q
    · rename_i kvs em
      obtain ⟨v, ev, rv⟩ := s.sl _ _ er
      obtain ⟨a, ws, rfl, ea, eh, rk⟩ := s.rm.dic rv em
      have ham : a ∈ m := List.mem_of_getElem? ea
      refine ⟨a, .dK ws, eh, trivial, fun od => ?_⟩
      have hmu : Mut (H a) := by rw [eh]; trivial
      have gL : Grow m H m (upd H a (.frz od (.dK ws))) := Grow.put s.rm ea hmu
      have rkL := rk.mono (List.prefix_refl _) gL.tups
      have rL : RM z.X.K m (upd H a (.frz od (.dK ws))) (M.set n (.fdic kvs)) := s.rm.put ea hmu (o := .fdic kvs) ⟨od, ws, upd_same, rkL⟩
      have sL := s.grow gL rL
      have hLa : upd H a (.frz od (.dK ws)) a = some (.frz od (.dK ws)) := upd_same
      -- what unlocking leaves
      have back : ∀ {m' : List Addr} {H' : Hp} {M' : Mem}, Grow m (upd H a (.frz od (.dK ws))) m' H' → RM z.X.K m' H' M' → M'[n]? = some (.fdic kvs) → Grow m H m' (upd H' a (.dK ws)) ∧ RM z.X.K m' (upd H' a (.dK ws)) (M'.set n (.dic kvs)) ∧ TupStay z.X.K H' (upd H' a (.dK ws)) := by
        intro m' H' M' g' r' e'
        have hH'a : H' a = some (.frz od (.dK ws)) := g'.frz _ _ _ hLa
        have gr : Grow m H m' (upd H' a (.dK ws)) := by
          have neA : ∀ b o, H b = some o → b ≠ a → (upd H a (.frz od (.dK ws))) b = some o := fun b o e hb => by rw [upd_ne hb]; exact e
          refine ⟨g'.pre, fun b hb hn => ?_, fun b o e hn => ?_, fun b o u e => ?_, fun b u e => ?_⟩
          · have hba : b ≠ a := fun z => hn (by rw [z]; exact ham)
            have := g'.fresh b hb hn
            rw [upd_ne hba] at this
            exact this
          · have hba : b ≠ a := fun z => hn (by rw [z]; exact ham)
            rw [upd_ne hba]
            exact g'.keep b o (neA b o e hba) hn
          · have hba : b ≠ a := fun z => by rw [z, eh] at e; cases e
            rw [upd_ne hba]
            exact g'.frz b o u (neA b _ e hba)
          · have hba : b ≠ a := fun z => by rw [z, eh] at e; cases e
            rw [upd_ne hba]
            exact g'.tup b u (neA b _ e hba)
        have ts : TupStay z.X.K H' (upd H' a (.dK ws)) := by
          refine ⟨fun b xs h => ?_, fun b xs h => ?_⟩
          · rcases h with (h | ⟨o, h⟩) | h
            · have hba : b ≠ a := fun z => by rw [z, hH'a] at h; cases h
              exact .inl (.inl (by rw [upd_ne hba]; exact h))
            · have hba : b ≠ a := fun z => by rw [z, hH'a] at h; cases h
              exact .inl (.inr ⟨o, by rw [upd_ne hba]; exact h⟩)
            · exact .inr h
          · rcases h with ⟨o, h⟩ | h
            · have hba : b ≠ a := fun z => by rw [z, hH'a] at h; cases h
              exact .inl ⟨o, by rw [upd_ne hba]; exact h⟩
            · exact .inr h
        have ea' := get_pre g'.pre ea
        refine ⟨gr, ⟨by rw [List.length_set]; exact r'.len, r'.nd, fun j u e => ?_⟩, ts⟩
        by_cases hj : j = n
        · subst hj
          rw [get_set_eq e'] at e
          cases e
          exact ⟨a, ea', ws, upd_same, rk.mono g'.pre gr.tups⟩
        · rw [List.getElem?_set_ne (fun z => hj z.symm)] at e
          obtain ⟨b, eb, q⟩ := r'.ob j u e
          have hne : b ≠ a := fun z => hj (nd_ix r'.nd (z ▸ eb) ea')
          exact ⟨b, eb, q.mono (List.prefix_refl _) ts fun u e => by rw [upd_ne hne]; exact e⟩
      have lL : Le z m (upd H a (.frz od (.dK ws))) { nx := fun r' M' => M'[n]? = some (.fdic kvs) ∧ Dd.nx r' (M'.set n (.dic kvs)), rt := fun d M' => M'[n]? = some (.fdic kvs) ∧ Dd.rt d (M'.set n (.dic kvs)), bk := fun r' M' => M'[n]? = some (.fdic kvs) ∧ Dd.bk r' (M'.set n (.dic kvs)), ct := fun r' M' => M'[n]? = some (.fdic kvs) ∧ Dd.ct r' (M'.set n (.dic kvs)) }
          ⟨fun σ' H' => H' a = some (.frz od (.dK ws)) ∧ E.nx σ' (upd H' a (.dK ws)), fun v H' => H' a = some (.frz od (.dK ws)) ∧ E.rt v (upd H' a (.dK ws)), fun σ' H' => H' a = some (.frz od (.dK ws)) ∧ E.bk σ' (upd H' a (.dK ws)), fun σ' H' => H' a = some (.frz od (.dK ws)) ∧ E.ct σ' (upd H' a (.dK ws))⟩ := by
        have rs : ∀ {r' : Rho} {M' : Mem} {m' : List Addr} {σ' : L2.St} {H' : Hp}, M'[n]? = some (.fdic kvs) → Grow m (upd H a (.frz od (.dK ws))) m' H' → RS z m' r' M' σ' H' → Grow m H m' (upd H' a (.dK ws)) ∧ RS z m' r' (M'.set n (.dic kvs)) σ' (upd H' a (.dK ws)) := by
          intro r' M' m' σ' H' e g' s'
          obtain ⟨b1, b2, b3⟩ := back g' s'.rm e
          exact ⟨b1, ⟨s.g.trans b1, b2, s'.len, fun j d ej => by
            obtain ⟨v, e1, e2⟩ := s'.sl j d ej
            exact ⟨v, e1, e2.mono (List.prefix_refl _) b3⟩⟩⟩
        refine ⟨fun r' M' m' σ' H' q g' s' => ?_, fun d M' m' v H' q g' r' rd' => ?_, fun r' M' m' σ' H' q g' s' => ?_, fun r' M' m' σ' H' q g' s' => ?_⟩
        · obtain ⟨b1, b2⟩ := rs q.1 g' s'
          exact ⟨g'.frz _ _ _ hLa, l.nx _ _ _ _ _ q.2 b1 b2⟩
        · obtain ⟨b1, b2, b3⟩ := back g' r' q.1
          exact ⟨g'.frz _ _ _ hLa, l.rt _ _ _ _ _ q.2 b1 b2 (rd'.mono (List.prefix_refl _) b3)⟩
        · obtain ⟨b1, b2⟩ := rs q.1 g' s'
          exact ⟨g'.frz _ _ _ hLa, l.bk _ _ _ _ _ q.2 b1 b2⟩
        · obtain ⟨b1, b2⟩ := rs q.1 g' s'
          exact ⟨g'.frz _ _ _ hLa, l.ct _ _ _ _ _ q.2 b1 b2⟩
      refine le m r (M.set n (.fdic kvs)) σ _ _ (fun d M' => d = .loc n ∧ M' = M.set n (.fdic kvs)) sL (by unfold dVar; rw [er]; exact ⟨rfl, rfl⟩) fun d M1 m1 v H1 q1 g1 r1 d1 => ?_
      obtain ⟨rfl, rfl⟩ := q1
      have hv1 : v = .ref a := by
        unfold RD at d1
        obtain ⟨b, rfl, eb⟩ := d1
        have := get_pre g1.pre ea
        rw [this] at eb
        cases eb
        rfl
      subst hv1
      have hH1 : H1 a = some (.frz od (.dK ws)) := g1.frz _ _ _ hLa
      refine ⟨a, od, rfl, .inl ⟨ws, hH1, ?_⟩⟩
      have ok : ItOk z.X.K m1 H1 ⟨keyItems kvs, fun M => M[n]? = some (.fdic kvs)⟩ (Itk a od ws) := itok_keys hH1 (rkL.mono g1.pre g1.tups)
      have l1 := lL.grow g1
      generalize (DEnds.mk _ _ _ _ : DEnds) = Dz at q l1 lL
      generalize hit : (DIt.mk (keyItems kvs) fun M => M[n]? = some (.fdic kvs)) = it at ok
      have q2 : forGo it.ok g tb Dz it.items r (M.set n (.fdic kvs)) := by rw [← hit]; exact q
      refine ⟨fun i k σ' H' => k = it.items.length - i ∧ i ≤ it.items.length ∧ ∃ m' r' M', Grow m1 H1 m' H' ∧ RS z m' r' M' σ' H' ∧ forGo it.ok g tb Dz (it.items.drop i) r' M', ⟨it.items.length, by simp, Nat.zero_le _, m1, r, _, .refl, sL.grow g1 r1, by rw [List.drop_zero]; exact q2⟩, ?_⟩
      rintro i k σ2 H2 ⟨rfl, hi, m2, r2, M2, g2, s2, w2⟩
      by_cases hlt : i < it.items.length
      · rw [List.drop_eq_getElem_cons hlt] at w2
        obtain ⟨hok, w2⟩ := w2
        refine .inr ⟨ok.go i m2 M2 H2 hlt g2 s2.rm hok, fun σ' H' => ∃ m' r' M', Grow m1 H1 m' H' ∧ RS z m' r' M' σ' H' ∧ forGo it.ok g tb Dz (it.items.drop (i + 1)) r' M', fun σ' H' q' => ⟨it.items.length - (i + 1), by omega, rfl, hlt, q'⟩, fun x H3 y => ?_⟩
        obtain ⟨d, ed, hH, rd⟩ := ok.yld i m2 M2 H2 x H3 hlt g2 s2.rm hok y
        have ed2 : d = it.items[i] := by
          rw [List.getElem?_eq_getElem hlt] at ed
          exact (Option.some.inj ed).symm
        subst ed2
        have g3 : Grow m2 H2 m2 H3 ∧ RM z.X.K m2 H3 M2 := by
          rcases hH with rfl | ⟨p, o, hp, rfl⟩
          · exact ⟨.refl, s2.rm⟩
          · exact ⟨Grow.new hp, s2.rm.new hp⟩
        refine lg m2 r2 M2 σ2 H3 _ x _ _ (s2.grow g3.1 g3.2) rd w2 fun r4 M4 m4 σ4 H4 q4 g4 s4 => ?_
        have g24 := g3.1.trans g4
        refine lb m4 r4 M4 σ4 H4 _ _ s4 q4 ⟨?_, (l1.grow (g2.trans g24)).rt, (l1.grow (g2.trans g24)).nx, ?_⟩
        · exact fun r' M' m' σ' H' q' g' s' => ⟨m', r', M', (g2.trans g24).trans g', s', q'⟩
        · exact fun r' M' m' σ' H' q' g' s' => ⟨m', r', M', (g2.trans g24).trans g', s', q'⟩
      · have e : i = it.items.length := by omega
        subst e
        rw [List.drop_length] at w2
        have hst := ok.stop m2 M2 H2 g2 s2.rm w2.1
        exact .inl ⟨hst, l1.nx _ _ _ _ _ w2.2 g2 s2⟩
    · exact q.elim
  · exact q.elim
end
end DL
namespace DL
open PySem L2
/-! ### fitting: what each blank must be -/
def cat2 (a b : Option Fl) : Option Fl := match a, b with
  | some x, some y => some (x ++ y)
  | _, _ => none
mutual
noncomputable def Tm.binds : Tm → Tm → Option Fl
  | .var i, t => some [(i, t)]
  | .app f ts, u => (match u with
    | .var _ => none
    | .app g us => if f = g then Tm.bindss ts us else none)
noncomputable def Tm.bindss : List Tm → List Tm → Option Fl
  | [], us => (match us with
    | [] => some []
    | _ :: _ => none)
  | t :: ts, us => (match us with
    | [] => none
    | u :: us => cat2 (Tm.binds t u) (Tm.bindss ts us))
end
theorem Tm.binds_var (i : Int) (t : Tm) : Tm.binds (.var i) t = some [(i, t)] := by rw [Tm.binds]
theorem Tm.binds_av (f : Str) (ts : List Tm) (j : Int) : Tm.binds (.app f ts) (.var j) = none := by rw [Tm.binds]
theorem Tm.binds_aa (f g : Str) (ts us : List Tm) : Tm.binds (.app f ts) (.app g us) = if f = g then Tm.bindss ts us else none := by rw [Tm.binds]
theorem Tm.bindss_nil : Tm.bindss [] [] = some [] := by rw [Tm.bindss]
theorem Tm.bindss_cons (t u : Tm) (ts us : List Tm) : Tm.bindss (t :: ts) (u :: us) = cat2 (Tm.binds t u) (Tm.bindss ts us) := by rw [Tm.bindss]
/-- the pairs that wait -/
noncomputable def bindp : List (Tm × Tm) → Option Fl
  | [] => some []
  | p :: ps => cat2 (p.1.binds p.2) (bindp ps)
theorem bindss_len : ∀ {ts us : List Tm}, ts.length ≠ us.length → Tm.bindss ts us = none
  | [], [], h => absurd rfl h
  | [], _ :: _, _ => by rw [Tm.bindss]
  | _ :: _, [], _ => by rw [Tm.bindss]
  | t :: ts, u :: us, h => by
    rw [Tm.bindss_cons, bindss_len (fun e => h (by simp [e]))]
    unfold cat2
    cases Tm.binds t u <;> rfl
theorem bindss_zip : ∀ {ts us : List Tm}, ts.length = us.length → Tm.bindss ts us = bindp (ts.zip us)
  | [], [], _ => by rw [Tm.bindss_nil]; rfl
  | [], _ :: _, h => by cases h
  | _ :: _, [], h => by cases h
  | t :: ts, u :: us, h => by
    rw [Tm.bindss_cons, bindss_zip (by simpa using h)]
    rfl
/-- the same demands, in any order: a is Bd and b -/
def Dem (a : Option Fl) (Bd : Fl) (b : Option Fl) : Prop := match a, b with
  | none, none => True
  | some L, some L' => ∀ x, x ∈ L ↔ x ∈ Bd ∨ x ∈ L'
  | _, _ => False
theorem Dem.start (a : Option Fl) : Dem a [] (cat2 a (some [])) := by
  cases a with
  | none => exact trivial
  | some L => intro x; simp
theorem Dem.none_iff {a : Option Fl} {Bd : Fl} {b : Option Fl} (h : Dem a Bd b) : a = none ↔ b = none := by
  cases a <;> cases b <;> simp [Dem] at h ⊢
theorem Dem.var {a : Option Fl} {Bd : Fl} {b : Option Fl} {i : Int} {u : Tm} (h : Dem a Bd (cat2 (some [(i, u)]) b)) : Dem a (Bd ++ [(i, u)]) b := by
  cases a with
  | none => cases b with
    | none => exact trivial
    | some L' => exact h
  | some L => cases b with
    | none => exact h
    | some L' =>
      intro x
      rw [h x, List.mem_append, List.mem_append, or_assoc]
/-- of two rows of demands either both are none, or both ask the same -/
def Alike (b c : Option Fl) : Prop := match b, c with
  | none, none => True
  | some L, some L' => ∀ x, x ∈ L ↔ x ∈ L'
  | _, _ => False
theorem Alike.refl (b : Option Fl) : Alike b b := by
  cases b with
  | none => exact trivial
  | some L => exact fun x => Iff.rfl
theorem Alike.trans {a b c : Option Fl} (h : Alike a b) (h' : Alike b c) : Alike a c := by
  cases a <;> cases b <;> cases c <;> simp [Alike] at h h' ⊢
  intro x y
  rw [h, h']
theorem Dem.alike {a : Option Fl} {Bd : Fl} {b c : Option Fl} (h : Dem a Bd b) (h' : Alike b c) : Dem a Bd c := by
  cases a <;> cases b <;> cases c <;> simp [Dem, Alike] at h h' ⊢
  intro x y
  rw [h, h']
theorem cat2_swap (a b c : Option Fl) : Alike (cat2 a (cat2 b c)) (cat2 b (cat2 a c)) := by
  cases a <;> cases b <;> cases c <;> simp [cat2, Alike]
  intro x y
  constructor <;> (rintro (h | h | h) <;> simp [h])
theorem cat2_congr {a b c : Option Fl} (h : Alike b c) : Alike (cat2 a b) (cat2 a c) := by
  cases a <;> cases b <;> cases c <;> simp [cat2, Alike] at h ⊢
  intro x y
  rw [h]
theorem cat2_assoc (a b c : Option Fl) : cat2 (cat2 a b) c = cat2 a (cat2 b c) := by
  cases a <;> cases b <;> cases c <;> simp [cat2]
theorem bindp_append (ps qs : List (Tm × Tm)) : bindp (ps ++ qs) = cat2 (bindp ps) (bindp qs) := by
  induction ps with
  | nil => show bindp qs = cat2 (some []) (bindp qs); cases bindp qs <;> rfl
  | cons p ps ih => rw [List.cons_append]; show cat2 _ (bindp (ps ++ qs)) = cat2 (cat2 _ _) _; rw [ih, cat2_assoc]
theorem bindp_rev : ∀ (ps qs : List (Tm × Tm)), Alike (bindp (ps ++ qs)) (bindp (ps.reverse ++ qs))
  | [], qs => Alike.refl _
  | p :: ps, qs => by
    rw [List.reverse_cons, List.append_assoc]
    have h1 := bindp_rev ps (p :: qs)
    refine Alike.trans ?_ h1
    show Alike (cat2 _ (bindp (ps ++ qs))) _
    rw [bindp_append, bindp_append]
    exact cat2_swap _ _ _
/-- what a filling of just the blanks is -/
def Fits (p t : Tm) (fs : Fl) : Prop := ∃ L, p.binds t = some L ∧ keysNd fs ∧ ∀ i u, getF fs i = some u ↔ (i, u) ∈ L
def NoFit (p t : Tm) : Prop := p.binds t = none ∨ ∃ L i u v, p.binds t = some L ∧ (i, u) ∈ L ∧ (i, v) ∈ L ∧ u ≠ v
theorem Fits.not {p t : Tm} {fs : Fl} (h : Fits p t fs) (h' : NoFit p t) : False := by
  obtain ⟨L, e, _, h⟩ := h
  rcases h' with h' | ⟨L', i, u, v, e', hu, hv, hne⟩
  · rw [e] at h'; cases h'
  · rw [e] at e'
    cases e'
    have a := (h i u).mpr hu
    have b := (h i v).mpr hv
    rw [a] at b
    cases b
    exact hne rfl
theorem getF_putF {fs : Fl} {i j : Int} {t : Tm} : getF (putF fs i t) j = if i = j then some t else getF fs j := by
  have h := val_flD (putF fs i t) j
  rw [← put_flD, valD_putD] at h
  by_cases e : i = j
  · rw [if_pos e]
    rw [if_pos (by rw [e])] at h
    cases g : getF (putF fs i t) j with
    | none => rw [g] at h; cases h
    | some u => rw [g] at h; injection h with h; rw [Tm.d_inj h]
  · rw [if_neg e]
    rw [if_neg (fun z => e (by injection z)), val_flD] at h
    cases g : getF (putF fs i t) j with
    | none =>
      rw [g] at h
      cases g' : getF fs j with
      | none => rfl
      | some u => rw [g'] at h; cases h
    | some u =>
      rw [g] at h
      cases g' : getF fs j with
      | none => rw [g'] at h; cases h
      | some u' => rw [g'] at h; injection h with h; rw [Tm.d_inj h]
theorem getF_keys {fs : Fl} {i : Int} : i ∈ (fs.map fun p => p.1) ↔ ∃ u, getF fs i = some u := by
  unfold getF
  constructor
  · intro h
    obtain ⟨p, hp, e⟩ := List.mem_map.mp h
    cases q : fs.find? (fun p => decide (p.1 = i)) with
    | none => exact absurd (List.find?_eq_none.mp q p hp) (by simp [e])
    | some r => exact ⟨r.2, rfl⟩
  · rintro ⟨u, h⟩
    cases q : fs.find? (fun p => decide (p.1 = i)) with
    | none => rw [q] at h; cases h
    | some r =>
      have h1 := List.mem_of_find?_eq_some q
      have h2 := List.find?_some q
      exact List.mem_map.mpr ⟨r, h1, of_decide_eq_true h2⟩
theorem sub_len {α : Type} : ∀ {l l' : List α}, l.Nodup → (∀ x ∈ l, x ∈ l') → l.length ≤ l'.length
  | [], _, _, _ => Nat.zero_le _
  | a :: l, l', hn, hs => by
    have ha := hs a (List.mem_cons_self ..)
    obtain ⟨s, t, rfl⟩ := List.append_of_mem ha
    rw [List.nodup_cons] at hn
    have := sub_len (l' := s ++ t) hn.2 fun x hx => by
      have h1 := hs x (List.mem_cons_of_mem _ hx)
      rcases List.mem_append.mp h1 with h | h
      · exact List.mem_append_left _ h
      · rcases List.mem_cons.mp h with h | h
        · subst h; exact absurd hx hn.1
        · exact List.mem_append_right _ h
    simp only [List.length_append, List.length_cons] at this ⊢
    omega
theorem Fits.same {p t : Tm} {fs gs : Fl} (h : Fits p t fs) (h' : Fits p t gs) : fs.length = gs.length ∧ ∀ i, getF fs i = getF gs i := by
  obtain ⟨L, e, n1, h1⟩ := h
  obtain ⟨L', e', n2, h2⟩ := h'
  rw [e] at e'
  cases e'
  have hg : ∀ i, getF fs i = getF gs i := fun i => by
    cases q : getF fs i with
    | none =>
      cases q' : getF gs i with
      | none => rfl
      | some u => have := (h1 i u).mpr ((h2 i u).mp q'); rw [q] at this; cases this
    | some u => exact ((h2 i u).mpr ((h1 i u).mp q)).symm
  refine ⟨?_, hg⟩
  have k1 := sub_len (l := List.map (fun p : Int × Tm => p.1) fs) (l' := List.map (fun p : Int × Tm => p.1) gs) n1 fun i hi => by
    obtain ⟨u, hu⟩ := getF_keys.mp hi
    exact getF_keys.mpr ⟨u, by rw [← hg]; exact hu⟩
  have k2 := sub_len (l := List.map (fun p : Int × Tm => p.1) gs) (l' := List.map (fun p : Int × Tm => p.1) fs) n2 fun i hi => by
    obtain ⟨u, hu⟩ := getF_keys.mp hi
    exact getF_keys.mpr ⟨u, by rw [hg]; exact hu⟩
  rw [List.length_map, List.length_map] at k1 k2
  omega
/-- all values are parts of the term -/
inductive Tm.In : Tm → Tm → Prop
  | here {t : Tm} : Tm.In t t
  | arg {u t : Tm} {f : Str} {ts : List Tm} : t ∈ ts → Tm.In u t → Tm.In u (.app f ts)
theorem Tm.In.good {u t : Tm} (h : Tm.In u t) : u.deep ≤ t.deep ∧ u.size ≤ t.size ∧ ∀ {p : Str → Prop}, t.Nm p → u.Nm p := by
  induction h with
  | here => exact ⟨Nat.le_refl _, Nat.le_refl _, fun h => h⟩
  | arg hm _ ih =>
    have h1 := Tm.deep_mem hm
    have h2 := Tm.size_mem hm
    rw [Tm.deep_app, Tm.size_app]
    exact ⟨by omega, by omega, fun h => ih.2.2 (h.arg _ hm)⟩
theorem In.down {x t : Tm} {f : Str} {ts : List Tm} (h : Tm.In (.app f ts) x) (ht : t ∈ ts) : Tm.In t x := by
  generalize e : Tm.app f ts = y at h
  revert e
  induction h with
  | here => intro e; subst e; exact .arg ht .here
  | arg hm _ ih => intro e; exact .arg hm (ih e)
theorem sum_rev (l : List Nat) : l.reverse.sum = l.sum := by
  induction l with
  | nil => rfl
  | cons a l ih => rw [List.reverse_cons, List.sum_append, List.sum_cons, ih]; simp; omega
/-- how far a loop over pairs that wait is: st waits, the top one first; fs is what stands -/
structure Way (p t : Tm) (st : List (Tm × Tm)) (fs : Fl) : Prop where
  dem : ∃ Bd, Dem (p.binds t) Bd (bindp st) ∧ ∀ i u, getF fs i = some u ↔ (i, u) ∈ Bd
  nd : keysNd fs
  sub : ∀ q ∈ st, Tm.In q.2 t
  subF : ∀ q ∈ fs, Tm.In q.2 t
  len : fs.length + (st.map fun q => q.1.size).sum ≤ p.size
  nm : ∀ q ∈ st, Tm.In q.1 p
theorem Way.start (p t : Tm) : Way p t [(p, t)] [] where
  dem := ⟨[], Dem.start _, fun i u => by simp [getF]⟩
  nd := by unfold keysNd; exact List.nodup_nil
  sub := fun q hq => by rw [List.mem_singleton.mp hq]; exact .here
  subF := fun q hq => by cases hq
  len := by simp
  nm := fun q hq => by rw [List.mem_singleton.mp hq]; exact .here
theorem Way.end_ {p t : Tm} {fs : Fl} (w : Way p t [] fs) : Fits p t fs := by
  obtain ⟨Bd, hd, hg⟩ := w.dem
  cases e : p.binds t with
  | none => rw [e] at hd; exact hd.elim
  | some L =>
    rw [e] at hd
    refine ⟨L, e, w.nd, fun i u => ?_⟩
    rw [hg]
    have := hd (i, u)
    simp at this
    exact this.symm
/-- a blank that is new or stands for the same -/
theorem Way.var {p t : Tm} {st : List (Tm × Tm)} {fs : Fl} {i : Int} {u : Tm} (w : Way p t ((.var i, u) :: st) fs) (h : getF fs i = none ∨ getF fs i = some u) : Way p t st (putF fs i u) := by
  obtain ⟨Bd, hd, hg⟩ := w.dem
  have hd' : Dem (p.binds t) (Bd ++ [(i, u)]) (bindp st) := Dem.var (by rw [← Tm.binds_var]; exact hd)
  refine ⟨⟨_, hd', fun j v => ?_⟩, putF_nd w.nd, fun q hq => w.sub q (List.mem_cons_of_mem _ hq), ?_, ?_, fun q hq => w.nm q (List.mem_cons_of_mem _ hq)⟩
  · rw [getF_putF, List.mem_append, List.mem_singleton]
    by_cases e : i = j
    · subst e
      rw [if_pos rfl]
      constructor
      · intro h; cases h; exact .inr rfl
      · rintro (h' | h')
        · have := (hg i v).mpr h'
          rcases h with h | h
          · rw [h] at this; cases this
          · rw [h] at this; exact this
        · cases h'; rfl
    · rw [if_neg e, hg]
      constructor
      · exact .inl
      · rintro (h' | h')
        · exact h'
        · cases h'; exact absurd rfl e
  · exact putF_all (p := fun x => Tm.In x t) w.subF (w.sub _ (List.mem_cons_self ..))
  · have h1 := putF_len fs i u
    have h2 := w.len
    simp only [List.map_cons, List.sum_cons, Tm.size_var] at h2
    omega
/-- a blank that stands for another one -/
theorem Way.clash {p t : Tm} {st : List (Tm × Tm)} {fs : Fl} {i : Int} {u v : Tm} (w : Way p t ((.var i, u) :: st) fs) (h : getF fs i = some v) (hne : v ≠ u) : NoFit p t := by
  obtain ⟨Bd, hd, hg⟩ := w.dem
  have hd' : Dem (p.binds t) (Bd ++ [(i, u)]) (bindp st) := Dem.var (by rw [← Tm.binds_var]; exact hd)
  cases e : p.binds t with
  | none => exact .inl e
  | some L =>
    rw [e] at hd'
    cases e' : bindp st with
    | none => rw [e'] at hd'; exact hd'.elim
    | some L' =>
      rw [e'] at hd'
      refine .inr ⟨L, i, v, u, e, (hd' _).mpr (.inl ?_), (hd' _).mpr (.inl ?_), hne⟩
      · exact List.mem_append_left _ ((hg i v).mp h)
      · exact List.mem_append_right _ (List.mem_singleton.mpr rfl)
theorem Way.fail {p t : Tm} {st : List (Tm × Tm)} {fs : Fl} {a b : Tm} (w : Way p t ((a, b) :: st) fs) (h : a.binds b = none) : NoFit p t := by
  obtain ⟨Bd, hd, _⟩ := w.dem
  refine .inl (hd.none_iff.mpr ?_)
  show cat2 (a.binds b) _ = none
  rw [h]
  rfl
theorem zip_sizes : ∀ {ts us : List Tm}, ts.length = us.length → ((ts.zip us).map fun q => q.1.size).sum = Tm.sizes ts
  | [], [], _ => by rw [Tm.sizes_nil]; rfl
  | [], _ :: _, h => by cases h
  | _ :: _, [], h => by cases h
  | t :: ts, u :: us, h => by rw [List.zip_cons_cons, List.map_cons, List.sum_cons, zip_sizes (by simpa using h), Tm.sizes_cons]
/-- the same name on both: their parts wait instead, in either order -/
theorem Way.parts {p t : Tm} {st : List (Tm × Tm)} {fs : Fl} {f : Str} {ts us : List Tm} (w : Way p t ((.app f ts, .app f us) :: st) fs) (hl : ts.length = us.length) (b : Bool) :
    Way p t ((if b then (ts.zip us).reverse else ts.zip us) ++ st) fs := by
  obtain ⟨Bd, hd, hg⟩ := w.dem
  have e1 : bindp ((.app f ts, .app f us) :: st) = bindp (ts.zip us ++ st) := by
    rw [bindp_append, ← bindss_zip hl]
    show cat2 (Tm.binds _ _) _ = _
    rw [Tm.binds_aa, if_pos rfl]
  have hmem : ∀ q ∈ ((if b then (ts.zip us).reverse else ts.zip us) ++ st), q ∈ ts.zip us ∨ q ∈ st := fun q hq => by
    rcases List.mem_append.mp hq with h | h
    · left
      cases b with
      | true => exact List.mem_reverse.mp h
      | false => exact h
    · exact .inr h
  refine ⟨⟨Bd, ?_, hg⟩, w.nd, fun q hq => ?_, w.subF, ?_, fun q hq => ?_⟩
  · rw [e1] at hd
    cases b with
    | false => exact hd
    | true => exact hd.alike (bindp_rev _ _)
  · rcases hmem q hq with h | h
    · have := w.sub _ (List.mem_cons_self ..)
      exact In.down this (List.of_mem_zip h).2
    · exact w.sub q (List.mem_cons_of_mem _ h)
  · have h2 := w.len
    simp only [List.map_cons, List.sum_cons, Tm.size_app] at h2
    rw [List.map_append, List.sum_append]
    have h3 : ((if b then (ts.zip us).reverse else ts.zip us).map fun q => q.1.size).sum = Tm.sizes ts := by
      cases b with
      | false => exact zip_sizes hl
      | true =>
        show ((ts.zip us).reverse.map fun q => q.1.size).sum = _
        rw [List.map_reverse, sum_rev, zip_sizes hl]
    omega
  · rcases hmem q hq with h | h
    · exact In.down (w.nm _ (List.mem_cons_self ..)) (List.of_mem_zip h).1
    · exact w.nm q (List.mem_cons_of_mem _ h)
/-- a pair that waits, as data -/
def pairD (q : Tm × Tm) : D := .tup [q.1.d, q.2.d]
end DL
namespace DL
open PySem L2
theorem Way.var0 {p t : Tm} {st : List (Tm × Tm)} {fs : Fl} {i : Int} {u : Tm} (w : Way p t ((.var i, u) :: st) fs) (h : getF fs i = some u) : Way p t st fs := by
  obtain ⟨Bd, hd, hg⟩ := w.dem
  have hd' : Dem (p.binds t) (Bd ++ [(i, u)]) (bindp st) := Dem.var (by rw [← Tm.binds_var]; exact hd)
  refine ⟨⟨_, hd', fun j v => ?_⟩, w.nd, fun q hq => w.sub q (List.mem_cons_of_mem _ hq), w.subF, ?_, fun q hq => w.nm q (List.mem_cons_of_mem _ hq)⟩
  · rw [List.mem_append, List.mem_singleton, hg]
    constructor
    · exact .inl
    · rintro (h' | h')
      · exact h'
      · cases h'; exact (hg i u).mp h
  · have h2 := w.len
    simp only [List.map_cons, List.sum_cons, Tm.size_var] at h2
    omega
theorem Way.stlen {p t : Tm} {st : List (Tm × Tm)} {fs : Fl} (w : Way p t st fs) : fs.length + st.length ≤ p.size := by
  have h := w.len
  have : ∀ l : List (Tm × Tm), l.length ≤ (l.map fun q => q.1.size).sum := fun l => by
    induction l with
    | nil => exact Nat.le_refl _
    | cons a l ih => rw [List.map_cons, List.sum_cons, List.length_cons]; have := a.1.size_pos; omega
  have := this st
  omega
theorem flD_len (fs : Fl) : (flD fs).length = fs.length := by unfold flD; rw [List.length_map]
theorem okDs_flD (n : Nat) (fs : Fl) : okDs n ((flD fs).map (·.2)) = true := by
  rw [okDs_iff]
  intro d hd
  obtain ⟨p, hp, rfl⟩ := List.mem_map.mp hd
  obtain ⟨q, _, rfl⟩ := List.mem_map.mp hp
  exact Tm.ok _ _
theorem NoFit.av {p t : Tm} {st : List (Tm × Tm)} {fs : Fl} {f : Str} {ts : List Tm} {j : Int} (w : Way p t ((.app f ts, .var j) :: st) fs) : NoFit p t := w.fail (Tm.binds_av ..)
theorem NoFit.aa {p t : Tm} {st : List (Tm × Tm)} {fs : Fl} {f g : Str} {ts us : List Tm} (w : Way p t ((.app f ts, .app g us) :: st) fs) (h : ¬ (f = g ∧ ts.length = us.length)) : NoFit p t := by
  refine w.fail ?_
  rw [Tm.binds_aa]
  by_cases e : f = g
  · rw [if_pos e]; exact bindss_len fun z => h ⟨e, z⟩
  · rw [if_neg e]
theorem pairD_zip (ts us : List Tm) : ((ts.map Tm.d).zip (us.map Tm.d)).map (fun p => D.tup [p.1, p.2]) = (ts.zip us).map pairD := by
  induction ts generalizing us with
  | nil => rfl
  | cons t ts ih => cases us with
    | nil => rfl
    | cons u us => rw [List.map_cons, List.map_cons, List.zip_cons_cons, List.map_cons, ih, List.zip_cons_cons, List.map_cons]; rfl
theorem zip_reverse {α β : Type} : ∀ {l : List α} {l' : List β}, l.length = l'.length → l.reverse.zip l'.reverse = (l.zip l').reverse
  | [], [], _ => rfl
  | [], _ :: _, h => by cases h
  | _ :: _, [], h => by cases h
  | a :: l, b :: l', h => by
    have hl : l.length = l'.length := by simpa using h
    rw [List.reverse_cons, List.reverse_cons, List.zip_append (by simp [hl]), zip_reverse hl]
    simp
end DL
namespace DL
open PySem L2
theorem pls_pairs {st : List (Tm × Tm)} (h : ∀ q ∈ st, q.1.Nm NameOk ∧ q.2.Nm NameOk) : pls (st.reverse.map pairD) = true := by
  rw [pls_iff]
  intro d hd
  obtain ⟨q, hq, rfl⟩ := List.mem_map.mp hd
  obtain ⟨h1, h2⟩ := h q (List.mem_reverse.mp hq)
  unfold pairD pl
  rw [pls_iff]
  intro e he
  simp only [List.mem_cons, List.not_mem_nil, or_false] at he
  rcases he with rfl | rfl
  · exact Tm.pl h1
  · exact Tm.pl h2
theorem Way.nms {p t : Tm} {st : List (Tm × Tm)} {fs : Fl} (w : Way p t st fs) (hp : p.Nm NameOk) (ht : t.Nm NameOk) : ∀ q ∈ st, q.1.Nm NameOk ∧ q.2.Nm NameOk := fun q hq => ⟨(w.nm q hq).good.2.2 hp, (w.sub q hq).good.2.2 ht⟩
end DL
namespace DL
open PySem L2
theorem qNotIn_dic {M : Mem} {n : Nat} {x : D} {k : Key} {kvs : List (Key × D)} {Q : QD} (e : M[n]? = some (.dic kvs)) (ek : keyD x = some k) (q : Q (.bl (!(valD kvs k).isSome)) M) : qNotIn x (.loc n) M Q := by
  unfold qNotIn inQ seqD
  simp only [e, ek]
  exact q
theorem keyItems_flD (fs : Fl) : keyItems (flD fs) = fs.map fun q => D.int q.1 := by
  unfold keyItems flD
  rw [List.map_map]
  rfl
end DL
namespace DL
open PySem L2
theorem cnt100_ok (x : Int) (p : Prop) [Decidable p] : ∃ c : Nat, x % 100 * (if p then 1 else 0) = (c : Int) ∧ c ≤ 99 := by
  obtain ⟨c, h1, h2⟩ := cnt_ok x 99 p
  exact ⟨c, h1, h2⟩
theorem Tm.put_nm {q : Str → Prop} {new : Tm} (hn : new.Nm q) : ∀ (p : List Nat) {t v : Tm}, t.at_ p = some v → t.Nm q → (Tm.put new p t).Nm q
  | [], t, v, _, _ => by rw [Tm.put_nil]; exact hn
  | k :: p, t, v, h, ht => by
    obtain ⟨f, ts, u, rfl, hk, hu, hv⟩ := Tm.at_cons h
    rw [Tm.put_app hu]
    refine .app ht.hd fun x hx => ?_
    rcases List.mem_or_eq_of_mem_set hx with h1 | h1
    · exact ht.arg x h1
    · rw [h1]
      exact Tm.put_nm hn p hv (ht.arg u (List.mem_of_getElem? hu))
end DL
namespace DL
open PySem L2
/-! ### rows handed to an order, good or not -/
structure Rw where
  nm : Str
  ar : Int
  wt : Int
def Rw.d (r : Rw) : D := .tup [.str r.nm, .int r.ar, .int r.wt]
def Sg.rw (s : Sg) : Rw := ⟨s.nm, s.ar, s.wt⟩
theorem Sg.rw_d (s : Sg) : s.rw.d = s.d := rfl
def nameB (x : Str) : Bool := decide (1 ≤ (tlS x).length) && (decide ((tlS x).length ≤ 8) && (tlS x).all fun c => decide (97 ≤ c) && decide (c ≤ 122))
theorem nameB_good {x : Str} : nameB x = true ↔ GoodName x := by
  unfold nameB GoodName
  simp only [Bool.and_eq_true, decide_eq_true_eq, List.all_eq_true]
def Rw.ok (r : Rw) : Prop := GoodName r.nm ∧ 0 ≤ r.ar ∧ r.ar ≤ 4 ∧ 1 ≤ r.wt ∧ r.wt ≤ 9
structure GoodRows (ss : List Sg) : Prop where
  names : ∀ s ∈ ss, GoodName s.nm
  nd : (ss.map Sg.nm).Nodup
  ar : ∀ s ∈ ss, s.ar ≤ 4
  wt : ∀ s ∈ ss, 1 ≤ s.wt ∧ s.wt ≤ 9
theorem GoodSigns.rows {ss : List Sg} (h : GoodSigns ss) : GoodRows ss := ⟨h.names, h.nd, h.ar, h.wt⟩
theorem GoodRows.ok {ss : List Sg} (h : GoodRows ss) {s : Sg} (hs : s ∈ ss) : s.rw.ok := by
  have h1 := h.ar s hs
  have h2 := h.wt s hs
  refine ⟨h.names s hs, ?_, ?_, ?_, ?_⟩
  · show (0 : Int) ≤ (s.ar : Int); omega
  · show (s.ar : Int) ≤ 4; omega
  · show (1 : Int) ≤ (s.wt : Int); omega
  · show (s.wt : Int) ≤ 9; omega
def Rows (rs : List Rw) : Prop := ∃ ss : List Sg, GoodRows ss ∧ rs = ss.map Sg.rw
theorem Rows.bad {rs : List Rw} {r : Rw} (hr : r ∈ rs) (h : ¬ r.ok) : ¬ Rows rs := by
  rintro ⟨ss, g, rfl⟩
  obtain ⟨s, hs, rfl⟩ := List.mem_map.mp hr
  exact h (g.ok hs)
theorem Rows.twice {as bs : List Rw} {r : Rw} (h : r.nm ∈ as.map Rw.nm) : ¬ Rows (as ++ r :: bs) := by
  rintro ⟨ss, g, e⟩
  have e2 : (ss.map Sg.rw).map Rw.nm = ss.map Sg.nm := by rw [List.map_map]; rfl
  have h2 := g.nd
  rw [← e2, ← e, List.map_append, List.nodup_append] at h2
  exact h2.2.2 _ h r.nm (by simp) rfl
theorem Rows.dup {as bs cs : List Rw} {r s : Rw} (h : r.nm = s.nm) : ¬ Rows (as ++ r :: (bs ++ s :: cs)) := by
  have e : as ++ r :: (bs ++ s :: cs) = (as ++ r :: bs) ++ s :: cs := by simp
  rw [e]
  refine Rows.twice ?_
  rw [List.map_append, List.map_cons, h]
  simp
theorem GoodRows.snoc {ps : List Sg} {r : Rw} (h : GoodRows ps) (hr : r.ok) (hn : r.nm ∉ ps.map Sg.nm) : ∃ g : Sg, g.rw = r ∧ GoodRows (ps ++ [g]) := by
  obtain ⟨x, a, w⟩ := r
  obtain ⟨h1, h2, h3, h4, h5⟩ := hr
  dsimp only at *
  refine ⟨⟨x, a.toNat, w.toNat⟩, ?_, ?_⟩
  · unfold Sg.rw
    rw [Int.toNat_of_nonneg h2, Int.toNat_of_nonneg (by omega)]
  · have hm : ∀ s ∈ ps ++ [(⟨x, a.toNat, w.toNat⟩ : Sg)], s ∈ ps ∨ s = ⟨x, a.toNat, w.toNat⟩ := fun s hs => by simpa using hs
    refine ⟨fun s hs => ?_, ?_, fun s hs => ?_, fun s hs => ?_⟩
    · rcases hm s hs with h' | rfl
      · exact h.names s h'
      · exact h1
    · rw [List.map_append, List.nodup_append]
      refine ⟨h.nd, by simp, fun y hy z hz e => ?_⟩
      have : z = x := by simpa using hz
      subst this
      subst e
      exact hn hy
    · rcases hm s hs with h' | rfl
      · exact h.ar s h'
      · show a.toNat ≤ 4; omega
    · rcases hm s hs with h' | rfl
      · exact h.wt s h'
      · show 1 ≤ w.toNat ∧ w.toNat ≤ 9; omega
/-! ### does a term fit an order -/
def knows (ss : List Sg) : Tm → Bool
  | .var i => decide (0 ≤ i) && decide (i ≤ 999)
  | .app f ts => decide (f ∈ ss.map Sg.nm) && decide (arOf f ss = ts.length)
def fits (ss : List Sg) (t : Tm) : Bool := t.pre.all (knows ss)
theorem pres_all {p : Tm → Bool} : ∀ ts : List Tm, (Tm.pres ts).all p = ts.all fun t => t.pre.all p
  | [] => by rw [Tm.pres_nil]; rfl
  | t :: ts => by rw [Tm.pres_cons, List.all_append, List.all_cons, pres_all ts]
theorem pres_mem {u : Tm} : ∀ {ts : List Tm}, u ∈ Tm.pres ts → ∃ t ∈ ts, u ∈ t.pre
  | [], h => by rw [Tm.pres_nil] at h; cases h
  | t :: ts, h => by
    rw [Tm.pres_cons] at h
    rcases List.mem_append.mp h with h | h
    · exact ⟨t, List.mem_cons_self .., h⟩
    · obtain ⟨t', h1, h2⟩ := pres_mem h
      exact ⟨t', List.mem_cons_of_mem _ h1, h2⟩
theorem Tm.pre_size : ∀ {t u : Tm}, u ∈ t.pre → u.size ≤ t.size := by
  intro t
  refine Tm.ind (P := fun t => ∀ {u : Tm}, u ∈ t.pre → u.size ≤ t.size) (fun i u h => ?_) (fun f ts ih u h => ?_) t
  · rw [Tm.pre_var] at h
    rw [List.mem_singleton.mp h]
    exact Nat.le_refl _
  · rw [Tm.pre_app] at h
    rcases List.mem_cons.mp h with rfl | h
    · exact Nat.le_refl _
    · obtain ⟨t, ht, h⟩ := pres_mem h
      have h1 := ih t ht h
      have h2 := Tm.size_mem ht
      rw [Tm.size_app]
      omega
theorem fits_app {ss : List Sg} {f : Str} {ts : List Tm} : fits ss (.app f ts) = (knows ss (.app f ts) && ts.all (fits ss)) := by
  unfold fits
  rw [Tm.pre_app, List.all_cons, pres_all]
theorem fits_var {ss : List Sg} {i : Int} : fits ss (.var i) = knows ss (.var i) := by
  unfold fits
  rw [Tm.pre_var]
  simp
theorem Over.fits {ss : List Sg} {vs : List Int} {t : Tm} (h : Over ss vs t) (hs : GoodRows ss) (hv : ∀ v ∈ vs, 0 ≤ v ∧ v ≤ 999) : fits ss t = true := by
  induction h with
  | var hm =>
    rw [fits_var]
    have := hv _ hm
    show (decide _ && decide _) = true
    rw [decide_eq_true this.1, decide_eq_true this.2]
    rfl
  | @app s ts hm hl _ ih =>
    rw [fits_app]
    have k : knows ss (.app s.nm ts) = true := by
      show (decide _ && decide _) = true
      rw [decide_eq_true (List.mem_map_of_mem hm), decide_eq_true (by rw [arOf_mem hs.nd hm, hl])]
      rfl
    rw [k, Bool.true_and, List.all_eq_true]
    exact ih
theorem fits_not {ss : List Sg} {t : Tm} (h : knows ss t = false) : fits ss t = false := by
  cases t with
  | var i => rw [fits_var, h]
  | app f ts => rw [fits_app, h]; rfl
theorem fits_put {ss : List Sg} {new : Tm} (h : knows ss new = false) : ∀ (p : List Nat) {t v : Tm}, t.at_ p = some v → fits ss (Tm.put new p t) = false
  | [], t, v, _ => by rw [Tm.put_nil]; exact fits_not h
  | k :: p, t, v, e => by
    obtain ⟨f, ts, u, rfl, hk, hu, hv⟩ := Tm.at_cons e
    rw [Tm.put_app hu, fits_app]
    have h1 := fits_put h p hv
    have hlt := (List.getElem?_eq_some_iff.mp hu).1
    have : (ts.set (k - 1) (Tm.put new p u)).all (fits ss) = false := by
      rw [List.all_eq_false]
      refine ⟨Tm.put new p u, List.mem_iff_getElem?.mpr ⟨k - 1, ?_⟩, by rw [h1]; decide⟩
      exact List.getElem?_set_self hlt
    rw [this, Bool.and_false]
/-! ### how a name of eight letters ends -/
def EndZ (x : Str) : Prop := (tlS x).length = 8 → (tlS x).getLast? = some 122
theorem EndZ.ne {ss : List Sg} (h : ∀ s ∈ ss, EndZ s.nm) {x : Str} (h1 : (tlS x).length = 8) (h2 : (tlS x).getLast? ≠ some 122) : x ∉ ss.map Sg.nm := by
  intro hm
  obtain ⟨s, hs, rfl⟩ := List.mem_map.mp hm
  exact h2 (h s hs h1)
end DL
/-! exceptions: raise, what leaves a def, try .. except -/
namespace DL
open PySem L2
abbrev XD := Addr → Rho → Mem → Prop
/-- the wish of a context about exceptions, told without the heap -/
def WofD (z : Zx) (Ed : XD) : WX := fun cls d σ H => ∃ (C : Addr) (m : List Addr) (r : Rho) (M : Mem), cls = .ref C ∧ d = none ∧ RS z m r M σ H ∧ Ed C r M
def Tk (z : Zx) (Ed : XD) : Prop := Takes z.X (WofD z Ed)
/-- a class of the program that may be raised -/
def ExcCls (K : PySem.W.Frag) (C : Addr) : Prop := PySem.W.excIn K C He.veBase "ValueError.__new__" = true ∧ PySem.W.keepIn K (.ref C) = true ∧ PySem.W.subIn K (.ref C) (.type "BaseException") = some true ∧ PySem.W.typeIn K (.ref C) = some (.type "type")
section
variable {z : Zx} {Ed : XD} {pos : Pos}
def dRaise (Ed : XD) (C : Addr) : DTS := fun _ r M => Ed C r M
theorem ds_raise {x msg : Str} {C : Addr} {j : Nat} {p p2 pos' : Pos} (hc : z.X.calm = true) (tk : Tk z Ed) (q : ExcCls z.X.K C) (gC : z.X.mg x = some (.ref C)) (hg : Gl z.X x := by rfl) (hdb : (x == ("__debug__" : Str)) = false := by decide) :
    DS z (.Raise (some (.Call (.Name x p) [.Constant (.str msg) j p2] [] pos)) none pos') (dRaise Ed C) := by
  refine ⟨_, ps_raise hc tk (pmk_own PySem.F.excBase_ValueError q.1 gC q.2.1 (raises_own q.2.2.1 q.2.2.2) hg hdb), fun m r M σ H E Dd s q l => ?_⟩
  exact ⟨C, m, r, M, rfl, rfl, s, q⟩
/-- f(..) that may raise -/
def dCallX (sp : DSp) (Ed : XD) (ta : DTA) : DTE := fun r M Q => ta r M fun ds M1 => sp ds M1 Q fun C M' => Ed C r M'
theorem de_callX {k : Nat} {x : Str} {ps : List Str} {sp : DSp} {e : Expr} {es : List Expr} {ta : DTA} {p : Pos} (tk : Tk z Ed) (F : DFn z.X.prog z.X.w z.X.K z.X.mg z.X.base (L2.CX z.X.prog z.X.w) k x ps sp) (hr : Room k z.X.A) (ha : DA z (e :: es) ta)
    (hg : Gl z.X x := by rfl) (hdb : (x == ("__debug__" : Str)) = false := by decide)
    (he : starEach (e :: es) z.X.env = (false, eval e z.X.env) :: starEach es z.X.env := by rfl) (hpl : (backTo pos (starEach es z.X.env)).any (·.1) = false := by rfl) : DE z (.Call (.Name x p) (e :: es) [] pos) (dCallX sp Ed ta) := by
  obtain ⟨f, fd, Fo, hm, hk, hb⟩ := F.ex
  obtain ⟨wa, pa, la⟩ := ha
  refine ⟨_, pe_callS Fo hr hg hm hk hb (passAt tk) pa hdb he hpl, fun m r M σ H Q Qd s q t => ?_⟩
  exact la m r M σ H _ _ s q fun ds M1 m1 vs H1 q1 g1 r1 d1 => ⟨m1, ds, M1, Qd, _, r1, d1, q1, t.grow g1, fun C M2 m2 H2 h2 g2 r2 => ⟨C, m2, r, M2, rfl, rfl, s.grow (g1.trans g2) r2, h2⟩⟩
/-! methods -/
def tMethS (C : Addr) (m : Str) (sp : Sp) (E : L2.St → XK) (ta : TE) (t : TA) : TE := fun σ H Q => ta σ H fun x H1 => ∃ a dx fs, x = .ref a ∧ H1 a = some (.ins C dx fs) ∧ fs.lookup m = none ∧ t σ H1 fun vs H2 => sp (x :: vs) H2 Q (E σ)
theorem pe_methS {X : Cx} {CX : CXT} {k : Nat} {f C : Addr} {fd : FuncData} {ps : List Str} {sp : Sp} {E : L2.St → XK} {m : Str} {pos apos : Pos} {e o : Expr} {es : List Expr} {ta : TE} {t : TA} {pl : Sem Bool} (he : PE X o ta) (c : Cls X.K C) (hm : Meth X.K C m f) (F : FnOk X.prog X.w X.K X.mg X.base CX k f fd ps sp) (hr : Room k X.A) (hb : Binds X.K fd ps []) (hx : ∀ σ, PassesAt CX X σ (E σ)) (ha : PA X (e :: es) t)
    (hst : starEach (e :: es) X.env = (false, eval e X.env) :: starEach es X.env := by rfl) (hpl : (backTo pos (starEach es X.env)).any (·.1) = false := by rfl)
    (ht : eval (.Call (.Attribute o m apos) (e :: es) [] pos) X.env = (do
      let ov ← eval o X.env
      standAt apos.atName
      let (f, first) ← holding [ov] (getMethod ov m pl)
      callWith pos f first (backTo pos (starEach (e :: es) X.env)) (backToKw pos (keywordEach [] X.env))) := by rfl) :
    PE X (.Call (.Attribute o m apos) (e :: es) [] pos) (tMethS C m sp E ta t) := by
  refine ⟨fun pins s σ H Q I h => ?_⟩
  refine PySem.W.methodCall_KW (pl := pl) (thn (he.run pins s σ H _ I h) fun u s1 ⟨x, H1, I1, rx, a, dx, fs, ex, ea, l, q⟩ => ?_) ht
  subst ex
  obtain rfl : u = Value.ref a := rx
  refine getmeth_ok I1 ea c hm l ?_
  refine PySem.W.callWith_K (first := [.ref a]) (h₀ := X.base) I.ok.mod.kin hm.kp (thn (ha.run pos pins s1 σ H1 _ I1 q) fun us s2 ⟨vs, H2, I2, r, q2⟩ => ⟨I2.kIn, ?_⟩) hst hpl
  exact run_fnS (us := .ref a :: us) (vs := .ref a :: vs) F hr hb (hx σ) I2 (.cons rfl r) q2
def dMethX (C : Addr) (x : Str) (sp : DSp) (Ed : XD) (ta : DTE) (tas : DTA) : DTE := fun r M Q => ta r M fun y M1 => match y with
  | .loc n => (match M1[n]? with
    | some (.ins C' fs) => C' = C ∧ fs.lookup x = none ∧ tas r M1 fun ds M2 => sp (.loc n :: ds) M2 Q fun C M' => Ed C r M'
    | _ => False)
  | _ => False
theorem de_methX {k : Nat} {C : Addr} {x : Str} {ps : List Str} {sp : DSp} {o e : Expr} {es : List Expr} {to : DTE} {ta : DTA} {apos : Pos} {pl : Sem Bool} (tk : Tk z Ed) (F : DMeth z.X.prog z.X.w z.X.K z.X.mg z.X.base (L2.CX z.X.prog z.X.w) k C x ps sp) (hr : Room k z.X.A) (ho : DE z o to) (ha : DA z (e :: es) ta)
    (hst : starEach (e :: es) z.X.env = (false, eval e z.X.env) :: starEach es z.X.env := by rfl) (hpl : (backTo pos (starEach es z.X.env)).any (·.1) = false := by rfl)
    (ht : eval (.Call (.Attribute o x apos) (e :: es) [] pos) z.X.env = (do
      let ov ← eval o z.X.env
      standAt apos.atName
      let (f, first) ← holding [ov] (getMethod ov x pl)
      callWith pos f first (backTo pos (starEach (e :: es) z.X.env)) (backToKw pos (keywordEach [] z.X.env))) := by rfl) : DE z (.Call (.Attribute o x apos) (e :: es) [] pos) (dMethX C x sp Ed to ta) := by
  obtain ⟨f, fd, Fo, hm, hb, hc⟩ := F.ex
  obtain ⟨wo, po, lo⟩ := ho
  obtain ⟨wa, pa, la⟩ := ha
  refine ⟨_, pe_methS po hc hm Fo hr hb (passAt tk) pa hst hpl ht, fun m r M σ H Q Qd s q t => ?_⟩
  refine lo m r M σ H _ _ s q fun y M1 m1 v H1 q1 g1 r1 d1 => ?_
  split at q1
  · rename_i n
    split at q1
    · rename_i C' fs em
      obtain ⟨rfl, hl, q1⟩ := q1
      obtain ⟨a, dx, ws, rfl, ea, eh, rk⟩ := r1.ins d1 em
      have hw : ws.lookup x = none := by
        rcases rk.lookup (k := x) with ⟨_, e2⟩ | ⟨d, u, e1, _, _⟩
        · exact e2
        · rw [hl] at e1; cases e1
      refine ⟨a, dx, ws, rfl, eh, hw, ?_⟩
      refine la m1 r M1 σ H1 _ _ (s.grow g1 r1) q1 fun ds M2 m2 vs H2 q2 g2 r2 d2 => ?_
      exact ⟨m2, .loc n :: ds, M2, Qd, _, r2, by unfold RDs; exact ⟨_, _, rfl, d1.grow g2, d2⟩, q2, (t.grow g1).grow g2, fun C M3 m3 H3 h3 g3 r3 => ⟨C, m3, r, M3, rfl, rfl, s.grow ((g1.trans g2).trans g3) r3, h3⟩⟩
    · exact q1.elim
  · exact q1.elim
/-! making -/
def tMakeS (C : Addr) (sp : Sp) (E : L2.St → XK) (t : TA) : TE := fun σ H Q => t σ H fun vs H1 => ∀ x dx, H1 x = none → H1 dx = none → dx ≠ x →
  sp (.ref x :: vs) (upd (upd H1 dx (.own x)) x (.ins C dx [])) (fun v H2 => v = .non ∧ Q (.ref x) H2) (E σ)
theorem pe_makeS {X : Cx} {CX : CXT} {k : Nat} {f C : Addr} {fd : FuncData} {ps : List Str} {sp : Sp} {E : L2.St → XK} {x : Str} {p pos : Pos} {e : Expr} {es : List Expr} {t : TA} (M : Mk X.K C f) (F : FnOk X.prog X.w X.K X.mg X.base CX k f fd ps sp) (hr : Room (k + 1) X.A) (hg : Gl X x) (hm : X.mg x = some (.ref C)) (hb : Binds X.K fd ps []) (hx : ∀ σ, PassesAt CX X σ (E σ))
    (ha : PA X (e :: es) t) (hdb : (x == ("__debug__" : Str)) = false := by decide) (he : starEach (e :: es) X.env = (false, eval e X.env) :: starEach es X.env := by rfl) (hpl : (backTo pos (starEach es X.env)).any (·.1) = false := by rfl) :
    PE X (.Call (.Name x p) (e :: es) [] pos) (tMakeS C sp E t) := by
  refine ⟨fun pins s σ H Q I h => ?_⟩
  refine wpAny_Call_Name_kw (ld_glob I hg hm ?_ hdb)
  refine PySem.W.callWith_K (h₀ := X.base) I.ok.mod.kin M.kp (thn (ha.run pos pins s σ H _ I h) fun us s1 ⟨vs, H1, I1, r, q⟩ => ⟨I1.kIn, ?_⟩) he hpl
  have hq := q (s1.heap.objs.size + 1) s1.heap.objs.size (I1.hok.fresh (Nat.le_succ _)) (I1.hok.fresh (Nat.le_refl _)) (Nat.ne_of_lt (Nat.lt_succ_self _))
  have I2 := Inv.made (C := C) I1
  have r2 : Vals (V.ref (s1.heap.objs.size + 1) :: vs) (Value.ref (s1.heap.objs.size + 1) :: us) := .cons rfl r
  have hl : (Value.ref (s1.heap.objs.size + 1) :: us).length = ps.length := by
    have e := r2.length
    rw [F.len _ _ _ _ hq] at e
    exact e.symm
  have b := hb _ (Value.ref (s1.heap.objs.size + 1) :: us) I2.kIn (by rw [List.append_nil]; exact hl)
  rw [List.append_nil] at b
  refine wpAny_call (make_map (f := f) I1.kIn M.makes M.init (beq_iff_eq.mp M.fn) (codeAny_mono (F.run _ X.stack _ _ ⟨Value.ref (s1.heap.objs.size + 1) :: us, []⟩ (Value.ref (s1.heap.objs.size + 1) :: us) _ _ (E σ) (hr.make C us [])
    (I2.env0.make C us []) b r2 hq) fun r s' hq' => ?_))
  cases r with
  | error e => exact hx σ pins _ _ e s' I2 hq'
  | ok fl =>
    cases fl with
    | ret u =>
      obtain ⟨v, H', I3, rv, ev, q3⟩ := I2.after hq'
      subst ev
      exact ⟨rv, ⟨V.ref (s1.heap.objs.size + 1), H', I3, rfl, q3⟩⟩
    | next => exact False.elim hq'
    | brk => exact False.elim hq'
    | cont => exact False.elim hq'
def dMakeX (C : Addr) (sp : DSp) (Ed : XD) (ta : DTA) : DTE := fun r M Q => ta r M fun ds M1 => sp (.loc M1.length :: ds) (M1 ++ [.ins C []]) (fun d M2 => d = .non ∧ Q (.loc M1.length) M2) fun C M' => Ed C r M'
theorem de_makeX {C : Addr} {k : Nat} {x : Str} {ps : List Str} {sp : DSp} {e : Expr} {es : List Expr} {ta : DTA} {p : Pos} (tk : Tk z Ed) (F : DInit z.X.prog z.X.w z.X.K z.X.mg z.X.base (L2.CX z.X.prog z.X.w) k C x ps sp) (hr : Room (k + 1) z.X.A) (ha : DA z (e :: es) ta) (hg : Gl z.X x := by rfl)
    (hdb : (x == ("__debug__" : Str)) = false := by decide) (he : starEach (e :: es) z.X.env = (false, eval e z.X.env) :: starEach es z.X.env := by rfl) (hpl : (backTo pos (starEach es z.X.env)).any (·.1) = false := by rfl) : DE z (.Call (.Name x p) (e :: es) [] pos) (dMakeX C sp Ed ta) := by
  obtain ⟨f, fd, Fo, hk, hm, hb⟩ := F.ex
  obtain ⟨wa, pa, la⟩ := ha
  refine ⟨_, pe_makeS hk Fo hr hg hm hb (passAt tk) pa hdb he hpl, fun m r M σ H Q Qd s q t => ?_⟩
  refine la m r M σ H _ _ s q fun ds M1 m1 vs H1 q1 g1 r1 d1 a dx ha hdx hne => ?_
  have g2 : Grow m1 H1 m1 (upd H1 dx (.own a)) := Grow.new hdx
  have r2 : RM z.X.K m1 (upd H1 dx (.own a)) M1 := r1.new hdx
  have ha2 : upd H1 dx (.own a) a = none := by rw [upd_ne (fun h => hne h.symm)]; exact ha
  have g3 : Grow m1 (upd H1 dx (.own a)) (m1 ++ [a]) (upd (upd H1 dx (.own a)) a (.ins C dx [])) := Grow.cell ha2
  have r3 : RM z.X.K (m1 ++ [a]) (upd (upd H1 dx (.own a)) a (.ins C dx [])) (M1 ++ [.ins C []]) := r2.cell ha2 ⟨dx, [], upd_same, by unfold RKV; rfl⟩
  have hloc : RD z.X.K (m1 ++ [a]) (upd (upd H1 dx (.own a)) a (.ins C dx [])) (.loc M1.length) (.ref a) := by
    unfold RD
    exact ⟨a, rfl, by rw [← r1.len]; simp⟩
  refine ⟨m1 ++ [a], .loc M1.length :: ds, _, fun d M2 => d = .non ∧ Qd (.loc M1.length) M2, _, r3, by unfold RDs; exact ⟨_, _, rfl, hloc, (d1.grow g2).grow g3⟩, q1, fun d M2 m2 v H2 q2 g4 r4 d4 => ?_, fun C M3 m3 H3 h3 g4 r4 => ⟨C, m3, r, M3, rfl, rfl, s.grow (g1.trans (g2.trans (g3.trans g4))) r4, h3⟩⟩
  obtain ⟨rfl, q2⟩ := q2
  exact ⟨d4.non_, t _ _ _ _ _ q2 (g1.trans (g2.trans (g3.trans g4))) r4 (hloc.grow g4)⟩
end
/-! ### a def that may raise -/
/-- what leaves: as it stands, or without what is new -/
def DoneX (n : Nat) (Ed : Addr → Mem → Prop) (C : Addr) (M : Mem) : Prop := Ed C M ∨ (okM n (M.take n) = true ∧ Ed C (M.take n))
theorem DoneX.same {n : Nat} {Ed : Addr → Mem → Prop} {C : Addr} {M : Mem} (h : Ed C M) : DoneX n Ed C M := .inl h
theorem DoneX.old {n : Nat} {Ed : Addr → Mem → Prop} {C : Addr} {M1 M' : Mem} (hM : okM n M1 = true) (e : M'.take n = M1) (h : Ed C M1) : DoneX n Ed C M' := .inr ⟨by rw [e]; exact hM, by rw [e]; exact h⟩
theorem DoneX.ok {K : PySem.W.Frag} {m m' : List Addr} {H H' : Hp} {M' : Mem} {n : Nat} {Ed : Addr → Mem → Prop} {E : XK} {C : Addr} (hn : n = m.length) (h : DoneX n Ed C M') (t : ThenX K m H Ed E) (g : Grow m H m' H') (r : RM K m' H' M') : E (.ref C) none H' := by
  subst hn
  rcases h with h | ⟨h2, h3⟩
  · exact t _ _ _ _ h g r
  · have gm : Grow m H m H' := ⟨List.prefix_refl _, fun _ a b => absurd a b, g.keep, g.frz, g.tup⟩
    exact t _ _ _ _ h3 gm (r.cut g.pre h2)
section
variable {P : Program} {w : World} {K : PySem.W.Frag} {mg : Str → Option Value} {base : Heap}
abbrev cxX (P : Program) (w : World) (K : PySem.W.Frag) (mg : Str → Option Value) (base : Heap) (N : List Str) (qual : Str) (st : Stmt) (f : Addr) (cdv : Value) (A : Around) (outer : List Env) (s : Shared) (H : Hp) (E : XK) : Cx := cxOf (L2.CX P w) P w K mg base N qual (defScope st) f cdv A outer s H E
/-- the body of a def that may raise, told without the heap -/
def BodyX (P : Program) (w : World) (K : PySem.W.Frag) (mg : Str → Option Value) (base : Heap) (N : List Str) (qual : Str) (st : Stmt) (f : Addr) (k : Nat) (sp : DSp) : Prop :=
  ∃ t : XD → DTS, (∀ (cdv : Value) (A : Around) (outer : List Env) (s : Shared) (H : Hp) (E : XK) (m0 : List Addr), Room k (A.deeper (PyProof.Rows.envOfC qual (defScope st) s.heap.objs.size f cdv)) →
      ∀ Ed : XD, Tk ⟨cxX P w K mg base N qual st f cdv A outer s H E, m0, H⟩ Ed → PassesOwn (model P w) (cxX P w K mg base N qual st f cdv A outer s H E).A (cxX P w K mg base N qual st f cdv A outer s H E).env (cxX P w K mg base N qual st f cdv A outer s H E).xe →
      DSs ⟨cxX P w K mg base N qual st f cdv A outer s H E, m0, H⟩ (defBody st) (t Ed)) ∧
    ∀ ds M Qd Ed, sp ds M Qd Ed → okM M.length M = true → t (fun C _ M' => DoneX M.length Ed C M') { nx := fun _ M' => Done M.length Qd .non M', rt := Done M.length Qd } (startD N ds) M
theorem fnok_ofX {x qual : Str} {st : Stmt} {f : Addr} {fd : FuncData} {N ps : List Str} {k : Nat} {sp : DSp} (F : FnP K x qual st f fd) (S : FnScope N ps (defScope st)) (len : ∀ ds M Q E, sp ds M Q E → ds.length = ps.length)
    (body : BodyX P w K mg base N qual st f k sp) : FnOk P w K mg base (L2.CX P w) (k + 1) f fd ps (liftSp K sp) := by
  obtain ⟨t, der, red⟩ := body
  refine F.ok S ?_ ?_
  · rintro vs H Q E ⟨m, ds, M, Qd, Ed, rm, rd, h, _⟩
    rw [rd.length]
    exact len _ _ _ _ h
  · rintro cdv A outer s H vs Q E hr ⟨m, ds, M, Qd, Ed, rm, rd, h, t1, t2⟩
    have tk0 : Takes (cxX P w K mg base N qual st f cdv A outer s H E) (fun cls d _ H => E cls d H) := takes_of (X := cxX P w K mg base N qual st f cdv A outer s H E) rfl rfl rfl rfl
    have tk : Tk ⟨cxX P w K mg base N qual st f cdv A outer s H E, m, H⟩ (fun C _ M' => DoneX M.length Ed C M') := tk0.imp fun c d σ' H' hw => by
      obtain ⟨C, m', r', M', rfl, rfl, s', hx⟩ := hw
      exact DoneX.ok rm.len.symm hx t2 s'.g s'.rm
    have po : PassesOwn (model P w) (cxX P w K mg base N qual st f cdv A outer s H E).A (cxX P w K mg base N qual st f cdv A outer s H E).env (cxX P w K mg base N qual st f cdv A outer s H E).xe := PassesOwn.leaving
    obtain ⟨ts, p, l⟩ := der cdv A outer s H E m hr _ tk po
    refine ⟨ts, p, ?_⟩
    obtain ⟨e1, e2⟩ := start_ok (N := N) rd
    refine l m (startD N ds) M (L2.start N vs) H _ _ ⟨.refl, rm, e1, e2⟩ (red ds M Qd Ed h rm.okM_) ⟨?_, ?_, ?_, ?_⟩
    · intro r' M' m' σ' H' q g s'
      exact Done.ok rm.len.symm q t1 g s'.rm RD.non'
    · intro d M' m' v H' q g r' rd'
      exact Done.ok rm.len.symm q t1 g r' rd'
    · intro r' M' m' σ' H' q g s'
      exact q.elim
    · intro r' M' m' σ' H' q g s'
      exact q.elim
theorem DFn.ofX {x qual : Str} {st : Stmt} {f : Addr} {fd : FuncData} {N ps : List Str} {k : Nat} {sp : DSp} (F : FnP K x qual st f fd) (hm : mg x = some (.ref f)) (hb : Binds K fd ps []) (S : FnScope N ps (defScope st)) (len : ∀ ds M Q E, sp ds M Q E → ds.length = ps.length)
    (body : BodyX P w K mg base N qual st f k sp) : DFn P w K mg base (L2.CX P w) (k + 1) x ps sp := ⟨f, fd, fnok_ofX F S len body, hm, F.kp, hb⟩
theorem DMeth.ofX {x qual : Str} {C : Addr} {st : Stmt} {f : Addr} {fd : FuncData} {N ps : List Str} {k : Nat} {sp : DSp} (F : FnP K x qual st f fd) (hm : Meth K C x f) (hc : Cls K C) (hb : Binds K fd ps []) (S : FnScope N ps (defScope st)) (len : ∀ ds M Q E, sp ds M Q E → ds.length = ps.length)
    (body : BodyX P w K mg base N qual st f k sp) : DMeth P w K mg base (L2.CX P w) (k + 1) C x ps sp := ⟨f, fd, fnok_ofX F S len body, hm, hb, hc⟩
theorem DInit.ofX {x x0 qual : Str} {C : Addr} {st : Stmt} {f : Addr} {fd : FuncData} {N ps : List Str} {k : Nat} {sp : DSp} (F : FnP K x0 qual st f fd) (hk : Mk K C f) (hm : mg x = some (.ref C)) (hb : Binds K fd ps []) (S : FnScope N ps (defScope st)) (len : ∀ ds M Q E, sp ds M Q E → ds.length = ps.length)
    (body : BodyX P w K mg base N qual st f k sp) : DInit P w K mg base (L2.CX P w) (k + 1) C x ps sp := ⟨f, fd, fnok_ofX F S len body, hk, hm, hb⟩
/-- a def that may raise, where it doesn't -/
theorem passX0 {X : Cx} {P : Program} {w : World} : Passes (L2.CX P w) X E0 := fun _ _ _ _ _ _ _ ⟨_, _, _, _, _, _, _, _, _, _, _, _, h⟩ => h.elim
end
end DL
namespace DL
open PySem L2
theorem takesF {X : Cx} : Takes X (fun _ _ _ _ => False) := fun _ _ ⟨_, _, _, _, _, _, _, _, _, _, _, _, _, _, _, _, w⟩ => w.elim
theorem RS.re {z z' : Zx} {m m' : List Addr} {r r' : Rho} {M M' : Mem} {σ σ' : L2.St} {H H' : Hp} (hK : z'.X.K = z.X.K) (hm : z'.m0 = m) (hH : z'.H0 = H) (s : RS z m r M σ H) (t : RS z' m' r' M' σ' H') : RS z m' r' M' σ' H' where
  g := s.g.trans (by rw [← hm, ← hH]; exact t.g)
  rm := by rw [← hK]; exact t.rm
  len := t.len
  sl := by rw [← hK]; exact t.sl
theorem RS.at0 {z z' : Zx} {m : List Addr} {r : Rho} {M : Mem} {σ : L2.St} {H : Hp} (hK : z'.X.K = z.X.K) (hm : z'.m0 = m) (hH : z'.H0 = H) (s : RS z m r M σ H) : RS z' m r M σ H where
  g := by rw [hm, hH]; exact .refl
  rm := by rw [hK]; exact s.rm
  len := s.len
  sl := by rw [hK]; exact s.sl
theorem Le.re {z z' : Zx} {m : List Addr} {H : Hp} {r : Rho} {M : Mem} {σ : L2.St} {Dd : DEnds} {E : Ends} (hK : z'.X.K = z.X.K) (hm : z'.m0 = m) (hH : z'.H0 = H) (s : RS z m r M σ H) (l : Le z m H Dd E) : Le z' m H Dd E :=
  ⟨fun r' M' m' σ' H' q g t => l.nx r' M' m' σ' H' q g (s.re hK hm hH t), fun d M' m' v H' q g t rd => l.rt d M' m' v H' q g (by rw [← hK]; exact t) (by rw [← hK]; exact rd),
   fun r' M' m' σ' H' q g t => l.bk r' M' m' σ' H' q g (s.re hK hm hH t), fun r' M' m' σ' H' q g t => l.ct r' M' m' σ' H' q g (s.re hK hm hH t)⟩
theorem RS.wipe1 {z : Zx} {m : List Addr} {r : Rho} {M : Mem} {σ : L2.St} {H : Hp} (s : RS z m r M σ H) (i : Nat) : RS z m (r.set i none) M (σ.set i none) H where
  g := s.g
  rm := s.rm
  len := by simp [s.len]
  sl := fun j d e => by
    by_cases hj : j = i
    · subst hj
      by_cases hl : j < r.length
      · rw [List.getElem?_set_self hl] at e; cases e
      · rw [List.getElem?_eq_none (by simpa using hl)] at e; cases e
    · rw [List.getElem?_set_ne (fun z => hj z.symm)] at e
      obtain ⟨v, e1, e2⟩ := s.sl j d e
      exact ⟨v, by rw [List.getElem?_set_ne (fun z => hj z.symm)]; exact e1, e2⟩
/-! ### try .. except X, try .. except X as e: the class that is thrown is C -/
def canB (z : Zx) (tb : XD → DTS) (W : WX) : TS := fun E σ H => ∃ (m : List Addr) (r : Rho) (M : Mem) (Dd : DEnds) (Ed : XD), RS z m r M σ H ∧ tb Ed Dd r M ∧ Le z m H Dd E ∧
  ∀ C r' M' m' σ' H', Ed C r' M' → Grow m H m' H' → RS z m' r' M' σ' H' → W (.ref C) none σ' H'
def canU (z : Zx) (C : Addr) (tu : Addr → DTS) (a : Addr) (cls : Value) (d : Option Addr) : TS := fun E σ H => ∃ (m : List Addr) (r : Rho) (M : Mem) (Dd : DEnds), RS z m r M σ H ∧ cls = .ref C ∧ d = none ∧ tu a Dd r M ∧ Le z m H Dd E
def wipeE (i : Nat) (D : DEnds) : DEnds := { nx := fun r M => D.nx (r.set i none) M, rt := D.rt, bk := fun r M => D.bk (r.set i none) M, ct := fun r M => D.ct (r.set i none) M }
def dTryOnly (C : Addr) (tb : XD → DTS) (tu : Addr → DTS) : DTS := fun D r M => tb (fun C' r1 M1 => C' = C ∧ ∀ a, tu a D r1 M1) D r M
def dTryAs (C : Addr) (i : Nat) (tb : XD → DTS) (tu : Addr → DTS) : DTS := fun D r M => tb (fun C' r1 M1 => C' = C ∧ ∀ a, tu a (wipeE i D) (r1.set i (some (.cls a))) M1) D r M
section
variable {z : Zx} {body suite : List Stmt} {b0 : Stmt} {tb : XD → DTS} {tu : Addr → DTS} {C Cc : Addr} {x n : Str} {np pos pos' : Pos}
/-- what the body of a try is, in whatever context of its own -/
def TryB (z : Zx) (body : List Stmt) (tb : XD → DTS) : Prop := ∀ (pn : List (Addr × Obj)) (xe : Value → Shared → Prop) (m1 : List Addr) (H1 : Hp) (Ed : XD), Tk ⟨z.X.tr pn xe, m1, H1⟩ Ed → PassesOwn (model z.X.prog z.X.w) z.X.A z.X.env xe → DSs ⟨z.X.tr pn xe, m1, H1⟩ body (tb Ed)
/-- what a suite is; a: the exception -/
def TryU (z : Zx) (C : Addr) (suite : List Stmt) (tu : Addr → DTS) : Prop := ∀ (a : Addr) (oe : Obj) (pn : List (Addr × Obj)) (m1 : List Addr) (H1 : Hp), Zc (.ref C) none oe → (∃ vs, oe.data = .fields vs) → DSs ⟨z.X.suite a ((a, oe) :: pn), m1, H1⟩ suite (tu a)
theorem TryB.can (h : TryB z body tb) : ∀ (W : WX) (pn : List (Addr × Obj)) (xe : Value → Shared → Prop), Takes (z.X.tr pn xe) W → PassesOwn (model z.X.prog z.X.w) z.X.A z.X.env xe → PSs (z.X.tr pn xe) body (canB z tb W) := by
  intro W pn xe tk po
  refine ⟨fun pins s σ H D I hq => ?_⟩
  obtain ⟨m, r, M, Dd, Ed, s0, q, l, hW⟩ := hq
  have tk' : Tk ⟨z.X.tr pn xe, m, H⟩ Ed := tk.imp fun c d σ' H' hw => by
    obtain ⟨C, m', r', M', rfl, rfl, s', hx⟩ := hw
    exact hW C r' M' m' σ' H' hx s'.g (RS.re (z := z) (z' := ⟨z.X.tr pn xe, m, H⟩) rfl rfl rfl s0 s')
  obtain ⟨ts, p, ls⟩ := h pn xe m H Ed tk' po
  exact p.run pins s σ H D I (ls m r M σ H D Dd (RS.at0 (z := z) (z' := ⟨z.X.tr pn xe, m, H⟩) rfl rfl rfl s0) q (Le.re (z := z) (z' := ⟨z.X.tr pn xe, m, H⟩) rfl rfl rfl s0 l))
theorem TryU.can (h : TryU z C suite tu) : ∀ (a : Addr) (oe : Obj) (cls : Value) (d : Option Addr) (pn : List (Addr × Obj)), Zc cls d oe → (∃ vs, oe.data = .fields vs) → PSs (z.X.suite a ((a, oe) :: pn)) suite (canU z C tu a cls d) := by
  intro a oe cls d pn hz hf
  refine ⟨fun pins s σ H D I hq => ?_⟩
  obtain ⟨m, r, M, Dd, s0, rfl, rfl, q, l⟩ := hq
  obtain ⟨ts, p, ls⟩ := h a oe pn m H hz hf
  exact p.run pins s σ H D I (ls m r M σ H D Dd (RS.at0 (z := z) (z' := ⟨z.X.suite a ((a, oe) :: pn), m, H⟩) rfl rfl rfl s0) q (Le.re (z := z) (z' := ⟨z.X.suite a ((a, oe) :: pn), m, H⟩) rfl rfl rfl s0 l))
theorem ds_tryOnly (hn : Names z.X x (.ref Cc)) (hm : PySem.W.exmOne z.X.K (.ref C) (.ref Cc) = some true) (hb : TryB z body tb) (hu : TryU z C (b0 :: suite) tu) (hs : z.X.stack = z.X.env :: z.X.outer := by rfl) (hf : z.X.env.frame = some z.X.env.locals := by rfl) :
    DS z (.Try body [.ExceptHandler (some (.Name x np)) none (b0 :: suite) pos'] [] [] pos) (dTryOnly C tb tu) := by
  refine ⟨_, ps_try_only hs hf hn takesF hb.can hu.can, fun m r M σ H E Dd s q l => ?_⟩
  refine ⟨m, r, M, Dd, _, s, q, l, fun C' r' M' m' σ' H' h g s' => ?_⟩
  obtain ⟨rfl, h⟩ := h
  exact ⟨true, hm, fun _ a ha => ⟨m', r', M', Dd, s', rfl, rfl, h a, l.grow g⟩, fun h => by cases h⟩
theorem ds_tryAs (i : Nat) (hN : z.X.N.Nodup) (hn : Names z.X x (.ref Cc)) (hm : PySem.W.exmOne z.X.K (.ref C) (.ref Cc) = some true) (hb : TryB z body tb) (hu : TryU z C (b0 :: suite) tu) (hi : z.X.N[i]? = some n := by rfl) (hl : z.X.env.kindOf n = some .local := by rfl) (hs : z.X.stack = z.X.env :: z.X.outer := by rfl) (hf : z.X.env.frame = some z.X.env.locals := by rfl) :
    DS z (.Try body [.ExceptHandler (some (.Name x np)) (some n) (b0 :: suite) pos'] [] [] pos) (dTryAs C i tb tu) := by
  refine ⟨_, ps_try_as hs hf hN hi hl hn takesF hb.can hu.can, fun m r M σ H E Dd s q l => ?_⟩
  refine ⟨m, r, M, Dd, _, s, q, l, fun C' r' M' m' σ' H' h g s' => ?_⟩
  obtain ⟨rfl, h⟩ := h
  refine ⟨true, hm, fun _ a ha => ⟨m', r'.set i (some (.cls a)), M', wipeE i Dd, s'.set (by unfold RD; rfl), rfl, rfl, h a, ?_⟩, fun h => by cases h⟩
  have lg := l.grow g
  exact ⟨fun r1 M1 m1 σ1 H1 q1 g1 s1 => lg.nx _ _ _ _ _ q1 g1 (s1.wipe1 i), lg.rt, fun r1 M1 m1 σ1 H1 q1 g1 s1 => lg.bk _ _ _ _ _ q1 g1 (s1.wipe1 i), fun r1 M1 m1 σ1 H1 q1 g1 s1 => lg.ct _ _ _ _ _ q1 g1 (s1.wipe1 i)⟩
end
/-! ### isinstance of the exception -/
def rIsEt (K : PySem.W.Frag) (D a : Addr) : List V → Hp → VK → Prop := fun xs H Q => ∃ (p : Addr) (vs : List V) (its : List Value) (b : Bool), xs = [.ref a, .ref p] ∧ SqT K H p vs ∧ (∀ us, Vals vs us → us = its) ∧ PySem.W.kitAny K (.ref D) its = some b ∧ Q (.bl b) H
theorem call_isEt {X : Cx} {a D : Addr} {oe : Obj} {pn : List (Addr × Obj)} (C : ExcC X.K D) (hz : Zc (.ref D) none oe) (hf : ∃ vs, oe.data = .fields vs) : CallR (X.suite a ((a, oe) :: pn)) (.builtin "isinstance") (rIsEt X.K D a) := by
  intro pins s σ H xs us Q I r h
  obtain ⟨p, vs, its, b, rfl, hq, hv, e, q⟩ := h
  cases r with
  | cons rx rr =>
    cases rr with
    | cons rt rr =>
      cases rr
      cases rx
      cases rt
      obtain ⟨its', rv, pt, hzz⟩ := I.tuple hq
      have ei := hv _ rv
      subst ei
      obtain ⟨hget, _⟩ := I.pin (a, oe) (List.mem_append.mpr (.inl List.mem_cons_self))
      obtain ⟨ws, hw⟩ := hf
      have J : PySem.W.InstAt s.heap a oe D none := by
        obtain ⟨oc, od, oda, osl⟩ := oe
        obtain ⟨h1, h2⟩ := hz
        dsimp only at h1 h2 hw
        subst h1 h2 hw
        exact ⟨hget, rfl, rfl, trivial⟩
      obtain ⟨⟨oc, od, oda, osl⟩, ho, hc, n, hd⟩ := pt
      dsimp only at hc hd
      subst hc hd
      exact PySem.W.kia_tup (PySem.W.handS_kitx_exc C.hg C.hk C.hs C.hd C.ha C.hn C.ht C.hm) I.kIn J ho e (fun z => nomatch z) fun tk => ⟨.bl b, H, I.kept (t' := tk) fun _ _ z => z, rfl, q⟩
/-- classes as values -/
def clsVal : D → Option Value
  | .cls c => some (.ref c)
  | .ty n => some (.type n)
  | _ => none
def clsVals : List D → Option (List Value)
  | [] => some []
  | d :: ds => match clsVal d, clsVals ds with
    | some v, some vs => some (v :: vs)
    | _, _ => none
theorem clsVal_of {K : PySem.W.Frag} {m : List Addr} {H : Hp} {d : D} {v : V} {cv u : Value} (e : clsVal d = some cv) (r : RD K m H d v) (q : RelV v u) : u = cv := by
  unfold clsVal at e
  split at e
  · cases e
    unfold RD at r
    subst r
    exact q
  · cases e
    unfold RD at r
    subst r
    exact q
  · cases e
theorem clsVals_of {K : PySem.W.Frag} {m : List Addr} {H : Hp} : ∀ {ds : List D} {vs : List V} {cs us : List Value}, clsVals ds = some cs → RDs K m H ds vs → Vals vs us → us = cs
  | [], _, cs, us, e, r, q => by
    rw [r.nil_] at q
    cases q
    unfold clsVals at e
    cases e
    rfl
  | d :: ds, _, cs, us, e, r, q => by
    obtain ⟨v, ws, rfl, hd, hs⟩ := r.cons_
    cases q with
    | cons q1 q2 =>
      unfold clsVals at e
      split at e
      · rename_i c cs' e1 e2
        cases e
        rw [clsVal_of e1 hd q1, clsVals_of e2 hs q2]
      · cases e
def qIsE (K : PySem.W.Frag) (D a : Addr) : DRA := fun xs M Q => match xs with
  | [.cls a', .tup ds] => a' = a ∧ (match clsVals ds with
    | some cs => (match PySem.W.kitAny K (.ref D) cs with
      | some b => Q (.bl b) M
      | none => False)
    | none => False)
  | [.cls a', c] => a' = a ∧ (match clsVal c with
    | some cv => (match PySem.W.kitOne K (.ref D) cv with
      | some b => Q (.bl b) M
      | none => False)
    | none => False)
  | _ => False
theorem dc_isE {X : Cx} {a D : Addr} {oe : Obj} {pn : List (Addr × Obj)} {m1 : List Addr} {H1 : Hp} (C : ExcC X.K D) (hz : Zc (.ref D) none oe) (hf : ∃ vs, oe.data = .fields vs) : DCall ⟨X.suite a ((a, oe) :: pn), m1, H1⟩ (.builtin "isinstance") (qIsE X.K D a) := by
  refine ⟨_, (call_isE C hz hf).or (call_isEt C hz hf), fun m M H vs ds Q Qd r d h t => ?_⟩
  unfold qIsE at h
  split at h
  · obtain ⟨v, w, rfl, q1, q2⟩ := d.two_
    obtain ⟨rfl, h⟩ := h
    obtain ⟨p, us, rfl, sp, q⟩ := q2.tup_
    split at h
    · rename_i cs ec
      split at h
      · rename_i b eb
        have e1 := q1.cls_
        exact .inr ⟨p, us, cs, b, by rw [e1], sp, fun ws hw => clsVals_of ec q hw, eb, t _ _ _ _ _ h .refl r RD.bl'⟩
      · exact h.elim
    · exact h.elim
  · obtain ⟨v, w, rfl, q1, q2⟩ := d.two_
    obtain ⟨rfl, h⟩ := h
    split at h
    · rename_i cv ec
      split at h
      · rename_i b eb
        have e1 := q1.cls_
        exact .inl ⟨w, cv, b, by rw [e1], fun u hu => clsVal_of ec q2 hu, eb, t _ _ _ _ _ h .refl r RD.bl'⟩
      · exact h.elim
    · exact h.elim
  · exact h.elim
end DL
namespace DL
open PySem L2
theorem dc_isEK {K : PySem.W.Frag} {X : Cx} {a D : Addr} {oe : Obj} {pn : List (Addr × Obj)} {m1 : List Addr} {H1 : Hp} (C : ExcC K D) (hz : Zc (.ref D) none oe) (hf : ∃ vs, oe.data = .fields vs) (hK : X.K = K := by rfl) : DCall ⟨X.suite a ((a, oe) :: pn), m1, H1⟩ (.builtin "isinstance") (qIsE K D a) := by
  subst hK
  exact dc_isE C hz hf
/-! ### what the head is asked besides -/
def excB (K : PySem.W.Frag) (C : Addr) : Bool :=
  decide (PySem.W.findIn K (.ref C) "__getattribute__" = some (some (.builtin "BaseException.__getattribute__"))) && (decide (PySem.W.findIn K (.ref C) "__getattr__" = some none) && (decide (PySem.W.subIn K (.ref C) (.type "BaseException") = some true) && (PySem.W.hasDictIn K C &&
  (decide (PySem.W.findIn K (.ref C) "__class__" = some (some (.builtin "object.__class__"))) && (decide (PySem.W.specialIn K (.builtin "object.__class__") "__get__" = some (some (.builtin "getset_descriptor.__get__"))) && (decide (PySem.W.takesIn K (.builtin "object.__class__") = some true) && decide (PySem.W.mroIn K C (.type "object") = some true)))))))
theorem excB_ok {K : PySem.W.Frag} {C : Addr} (h : excB K C = true) : ExcC K C := by
  unfold excB at h
  simp only [Bool.and_eq_true, decide_eq_true_eq] at h
  exact ⟨h.1, h.2.1, h.2.2.1, h.2.2.2.1, h.2.2.2.2.1, h.2.2.2.2.2.1, h.2.2.2.2.2.2.1, h.2.2.2.2.2.2.2⟩
def kit1B (K : PySem.W.Frag) (C : Addr) (c : Value) (b : Bool) : Bool := decide (PySem.W.kitOne K (.ref C) c = some b)
theorem kit1B_ok {K : PySem.W.Frag} {C : Addr} {c : Value} {b : Bool} (h : kit1B K C c b = true) : PySem.W.kitOne K (.ref C) c = some b := of_decide_eq_true h
/-- the hook with questions of one's own -/
def obsX (n : Nat) (fa : List He.Fa) (fn : List He.DefD) (ex : List (PySem.W.Frag → Bool)) (g : Addr → Option Obj) : Bool × He.AlD := (ex.all fun f => f (He.frG g (He.asD g n)), He.obsDG n fa fn g)
def hookX (n : Nat) (fa : List He.Fa) (fn : List He.DefD) (ex : List (PySem.W.Frag → Bool)) : PySem.W.Hook where
  α := Bool × He.AlD
  obs := fun s => obsX n fa fn ex s.heap.get?
  val := fun _ => (true, He.valD fn)
  says := fun _ h => ∃ K : PySem.W.Frag, K.In h ∧ He.SaysD fa fn K ∧ (ex.all fun f => f K) = true
  of := fun _ _ e => ⟨_, He.frG_in, congrArg (fun z : Bool × He.AlD => z.2) e, congrArg (fun z : Bool × He.AlD => z.1) e⟩
  keeps := fun _ _ _ ⟨K, hK, c, d⟩ k => ⟨K, PySem.W.Frag.In.keeps hK k, c, d⟩
theorem obsX_eq {n : Nat} {fa : List He.Fa} {fn : List He.DefD} {ex : List (PySem.W.Frag → Bool)} {g : Addr → Option Obj} {s : Shared} (h : ∀ a, g a = s.heap.get? a) : obsX n fa fn ex g = (hookX n fa fn ex).obs s := by
  have e : g = s.heap.get? := funext h
  rw [e] <;> rfl
theorem ex_at {K : PySem.W.Frag} {ex : List (PySem.W.Frag → Bool)} (h : (ex.all fun f => f K) = true) (i : Nat) {f : PySem.W.Frag → Bool} (e : ex[i]? = some f := by rfl) : f K = true := List.all_eq_true.mp h f (List.mem_of_getElem? e)
theorem b_ValueError : bootBuiltins "ValueError" = some (.type "ValueError") := by decide +kernel
end DL
/-! list(range(n)), list(range(a, b)) -/
namespace DL
open PySem L2
theorem rds_map {K : PySem.W.Frag} {m : List Addr} {H : Hp} {α : Type} (f : α → D) (g : α → V) (h : ∀ a, RD K m H (f a) (g a)) : ∀ l : List α, RDs K m H (l.map f) (l.map g)
  | [] => by unfold RDs; rfl
  | a :: l => by
    show RDs K m H (f a :: l.map f) (g a :: l.map g)
    unfold RDs
    exact ⟨_, _, rfl, h a, rds_map f g h l⟩
theorem rds_rng {K : PySem.W.Frag} {m : List Addr} {H : Hp} (a b : Int) : RDs K m H (rngD a (b - a).toNat) (rgV a b) := by
  unfold rngD rgV
  refine rds_map _ _ (fun i => ?_) _
  unfold RD
  rfl
def dListRg1 (ta : DTE) : DTE := fun r M Q => ta r M fun x M1 => match x with
  | .int n => RgOk 0 n ∧ Q (.loc M1.length) (M1 ++ [.lst (rngD 0 n.toNat)])
  | _ => False

section
variable {z : Zx} {pos : Pos} {te : DTE} {e : Expr}
theorem de_listRg1 {p p2 pos2 : Pos} (hc : z.X.calm = true) (hm : z.X.mg "list" = none) (hm2 : z.X.mg "range" = none) (h : DE z e te) (hg : Gl z.X "list" := by rfl) (hg2 : Gl z.X "range" := by rfl)
    (hs : starEach [e] z.X.env = (false, eval e z.X.env) :: starEach [] z.X.env := by rfl)
    (hs2 : starEach [.Call (.Name "range" p2) [e] [] pos2] z.X.env = (false, eval (.Call (.Name "range" p2) [e] [] pos2) z.X.env) :: starEach [] z.X.env := by rfl) :
    DE z (.Call (.Name "list" p) [.Call (.Name "range" p2) [e] [] pos2] [] pos) (dListRg1 te) := by
  obtain ⟨wa, pa, la⟩ := h
  refine ⟨_, pe_listRg hc hg hm (prg_1 hg2 hm2 pa hs) hs2, fun m r M σ H Q Qd s q t => la m r M σ H _ _ s q fun x M1 m1 v H1 q1 g1 r1 d1 => ?_⟩
  split at q1
  · rename_i n
    obtain ⟨ho, q1⟩ := q1
    unfold RD at d1
    subst d1
    refine ⟨n, rfl, ho, fun p hp => ?_⟩
    have e : rngD 0 n.toNat = rngD 0 (n - 0).toNat := by rw [Int.sub_zero]
    rw [e] at q1
    exact new_lst r1 (rds_rng 0 n) hp q1 (t.grow g1)
  · exact q1.elim
end
end DL
/-! a, b = x, y with plain local names; o.m() -/
namespace DL
open PySem L2
def dPar (i j : Nat) (ta : DTA) : DTS := fun D r M => ta r M fun ds M1 => match ds with
  | [d, e] => D.nx ((r.set i (some d)).set j (some e)) M1
  | _ => False
section
variable {z : Zx} {pos : Pos}
theorem ds_par (i j : Nat) {x y : Str} {a b : Expr} {ta : DTA} {px py pt : Pos} {kt k2 pt2} (hc : z.X.calm = true) (hN : z.X.N.Nodup) (ha : DA z [a, b] ta)
    (hw : swappedStores [.Tuple [.Name x px, .Name y py] kt pt] (.Tuple [a, b] k2 pt2) z.X.env = pure (some [x, y])) (hij : i ≠ j := by decide) (hi : z.X.N[i]? = some x := by rfl) (hj : z.X.N[j]? = some y := by rfl)
    (hx : z.X.env.scope.names.lookup x = some .local := by rfl) (hy : z.X.env.scope.names.lookup y = some .local := by rfl)
    (hs : swapsWithSole [.Tuple [.Name x px, .Name y py] kt pt] (.Tuple [a, b] k2 pt2) pos.line z.X.env = pure false := by rfl) : DS z (.Assign [.Tuple [.Name x px, .Name y py] kt pt] (.Tuple [a, b] k2 pt2) pos) (dPar i j ta) := by
  obtain ⟨w, p, lw⟩ := ha
  refine ⟨_, ps_par hc hN hi hj hij hx hy p hw hs, fun m r M σ H E Dd s q l => lw m r M σ H _ _ s q fun ds M1 m1 vs H1 q1 g1 r1 d1 => ?_⟩
  split at q1
  · obtain ⟨v, u, rfl, h1, h2⟩ := d1.two_
    exact ⟨v, u, rfl, l.nx _ _ _ _ _ q1 g1 (((s.grow g1 r1).set h1).set h2)⟩
  · exact q1.elim
variable {C : Addr} {o : Expr} {apos : Pos}
theorem de_meth0 {CX : CXT} {k : Nat} {x : Str} {ps : List Str} {sp : DSp} {to : DTE} {pl : Sem Bool} (F : DMeth z.X.prog z.X.w z.X.K z.X.mg z.X.base CX k C x ps sp) (hr : Room k z.X.A) (hx : Passes CX z.X E0) (ho : DE z o to)
    (ht : eval (.Call (.Attribute o x apos) [] [] pos) z.X.env = (do
      let ov ← eval o z.X.env
      standAt apos.atName
      let (f, first) ← holding [ov] (getMethod ov x pl)
      callWith pos f first (backTo pos (starEach [] z.X.env)) (backToKw pos (keywordEach [] z.X.env))) := by rfl) : DE z (.Call (.Attribute o x apos) [] [] pos) (dMeth C x sp to dNil) := by
  obtain ⟨f, fd, Fo, hm, hb, hc⟩ := F.ex
  obtain ⟨wo, po, lo⟩ := ho
  exact ⟨_, pe_meth0 po hc hm Fo hr hb .nil hx ht, le_meth lo fun m r M σ H Q Qd s q t => t _ _ _ _ _ q .refl s.rm RDs.nil'⟩
end
end DL
namespace DL
open PySem L2
/-! ### two terms' parts in a row, as met lays them: i stand done -/
structure Laid (s t : Tm) (P : List Tm) (F : List Nat) (i : Nat) : Prop where
  len : F.length = i
  le : i ≤ P.length
  zero : P[0]? = some s
  one : P[1]? = some t
  at_ : ∀ j, j < i → ∀ u, P[j]? = some u → ∃ o, F[j]? = some o ∧ j < o ∧ 2 ≤ o ∧ o + u.parts.length ≤ P.length ∧ ∀ k, k < u.parts.length → P[o + k]? = u.parts[k]?
  sum : i + Tm.sizes (P.drop i) = s.size + t.size
  par : ∀ x, 2 ≤ x → x < P.length → ∃ j o u k, j < i ∧ F[j]? = some o ∧ P[j]? = some u ∧ k < u.parts.length ∧ x = o + k
theorem parts_size (u : Tm) : Tm.sizes u.parts + 1 = u.size := by
  cases u with
  | var i => show Tm.sizes [] + 1 = _; rw [Tm.sizes_nil, Tm.size_var]
  | app f ts => show Tm.sizes ts + 1 = _; rw [Tm.size_app]; omega
theorem Laid.start (s t : Tm) : Laid s t [s, t] [] 0 where
  len := rfl
  le := Nat.zero_le _
  zero := rfl
  one := rfl
  at_ j h := absurd h (Nat.not_lt_zero _)
  sum := by rw [List.drop_zero, Tm.sizes_cons, Tm.sizes_cons, Tm.sizes_nil]; omega
  par x h1 h2 := by simp at h2; omega
theorem Laid.two {s t : Tm} {P : List Tm} {F : List Nat} {i : Nat} (h : Laid s t P F i) : 2 ≤ P.length := by
  have := (List.getElem?_eq_some_iff.mp h.one).1
  omega
theorem Laid.len_le {s t : Tm} {P : List Tm} {F : List Nat} {i : Nat} (h : Laid s t P F i) : P.length ≤ s.size + t.size := by
  have h1 := Tm.len_sizes (P.drop i)
  rw [List.length_drop] at h1
  have h2 := h.sum
  have h3 := h.le
  omega
theorem Laid.step {s t u : Tm} {P : List Tm} {F : List Nat} {i : Nat} (h : Laid s t P F i) (hu : P[i]? = some u) : Laid s t (P ++ u.parts) (F ++ [P.length]) (i + 1) := by
  have hi := (List.getElem?_eq_some_iff.mp hu).1
  have h2 := h.two
  refine ⟨by rw [List.length_append, h.len]; rfl, by rw [List.length_append]; omega, ?_, ?_, fun j hj v hv => ?_, ?_, fun x hx1 hx2 => ?_⟩
  · rw [List.getElem?_append_left (by omega)]; exact h.zero
  · rw [List.getElem?_append_left (by omega)]; exact h.one
  · rw [List.getElem?_append_left (by omega)] at hv
    by_cases hji : j = i
    · subst hji
      rw [hu] at hv
      cases hv
      refine ⟨P.length, by rw [List.getElem?_append_right (by rw [h.len]; exact Nat.le_refl _), h.len, Nat.sub_self]; rfl, hi, h2, by rw [List.length_append]; exact Nat.le_refl _, fun k hk => ?_⟩
      rw [List.getElem?_append_right (by omega), Nat.add_sub_cancel_left]
    · obtain ⟨o, ho, h3, h4, h5, h6⟩ := h.at_ j (by omega) v hv
      refine ⟨o, ?_, h3, h4, by rw [List.length_append]; omega, fun k hk => ?_⟩
      · rw [List.getElem?_append_left (List.getElem?_eq_some_iff.mp ho).1]; exact ho
      · rw [List.getElem?_append_left (by omega)]; exact h6 k hk
  · have h3 := h.sum
    rw [List.drop_append_of_le_length (by omega), Tm.sizes_append]
    have h4 : P.drop i = u :: P.drop (i + 1) := by
      rw [List.drop_eq_getElem_cons hi]
      congr 1
      have := List.getElem?_eq_getElem hi
      rw [hu] at this
      injection this with this
      exact this.symm
    rw [h4, Tm.sizes_cons] at h3
    have h5 := parts_size u
    omega
  · rw [List.length_append] at hx2
    by_cases hxl : x < P.length
    · obtain ⟨j, o, v, k, e1, e2, e3, e4, e5⟩ := h.par x hx1 hxl
      exact ⟨j, o, v, k, by omega, by rw [List.getElem?_append_left (List.getElem?_eq_some_iff.mp e2).1]; exact e2, by rw [List.getElem?_append_left (List.getElem?_eq_some_iff.mp e3).1]; exact e3, e4, e5⟩
    · exact ⟨i, P.length, u, x - P.length, by omega, by rw [List.getElem?_append_right (by rw [h.len]; exact Nat.le_refl _), h.len, Nat.sub_self]; rfl, by rw [List.getElem?_append_left hi]; exact hu, by omega, by omega⟩
/-! ### a forest of links: from where which top is reached, and by how many steps -/
def RtN (L : List Nat) : Nat → Nat → Nat → Prop
  | 0, i, r => i = r ∧ L[i]? = some i
  | k + 1, i, r => ∃ j, L[i]? = some j ∧ j ≠ i ∧ RtN L k j r
theorem RtN.uniq {L : List Nat} : ∀ {k k' i r r' : Nat}, RtN L k i r → RtN L k' i r' → k = k' ∧ r = r'
  | 0, 0, i, r, r', ⟨h, _⟩, ⟨h', _⟩ => ⟨rfl, h.symm.trans h'⟩
  | 0, k' + 1, i, r, r', ⟨_, h⟩, ⟨j, h1, h2, _⟩ => by rw [h] at h1; injection h1 with h1; exact absurd h1.symm h2
  | k + 1, 0, i, r, r', ⟨j, h1, h2, _⟩, ⟨_, h⟩ => by rw [h] at h1; injection h1 with h1; exact absurd h1.symm h2
  | k + 1, k' + 1, i, r, r', ⟨j, h1, _, h3⟩, ⟨j', h1', _, h3'⟩ => by
    rw [h1] at h1'
    injection h1' with h1'
    subst h1'
    have := RtN.uniq h3 h3'
    exact ⟨by omega, this.2⟩
theorem RtN.top {L : List Nat} : ∀ {k i r : Nat}, RtN L k i r → L[r]? = some r
  | 0, i, r, ⟨h, h'⟩ => by rw [← h]; exact h'
  | k + 1, i, r, ⟨_, _, _, h⟩ => h.top
theorem RtN.lt {L : List Nat} {k i r : Nat} (h : RtN L k i r) : i < L.length := by
  cases k with
  | zero => exact (List.getElem?_eq_some_iff.mp h.2).1
  | succ k => obtain ⟨j, h, _⟩ := h; exact (List.getElem?_eq_some_iff.mp h).1
/-- each top that L tells, L' tells too -/
def SameTops (L L' : List Nat) : Prop := L'.length = L.length ∧ ∀ d x y, RtN L d x y → ∃ d', d' ≤ d ∧ RtN L' d' x y
theorem SameTops.refl (L : List Nat) : SameTops L L := ⟨rfl, fun d x y h => ⟨d, Nat.le_refl _, h⟩⟩
theorem SameTops.trans {L L' L'' : List Nat} (h : SameTops L L') (h' : SameTops L' L'') : SameTops L L'' :=
  ⟨h'.1.trans h.1, fun d x y r => by
    obtain ⟨d1, l1, r1⟩ := h.2 d x y r
    obtain ⟨d2, l2, r2⟩ := h'.2 d1 x y r1
    exact ⟨d2, Nat.le_trans l2 l1, r2⟩⟩
theorem SameTops.stay {L L' : List Nat} (h : SameTops L L') {x : Nat} (e : L[x]? = some x) : L'[x]? = some x := by
  obtain ⟨d, _, r⟩ := h.2 0 x x ⟨rfl, e⟩
  exact r.top
/-- a link is led on by one -/
theorem halve {L : List Nat} {i j g k r : Nat} (hi : L[i]? = some j) (hj : L[j]? = some g) (hk : RtN L (k + 1) i r) : SameTops L (L.set i g) ∧ ∃ d, d ≤ k ∧ RtN (L.set i g) d g r := by
  obtain ⟨j', hj', hne, hkj⟩ := hk
  rw [hi] at hj'
  injection hj' with hj'
  subst hj'
  have hil := (List.getElem?_eq_some_iff.mp hi).1
  have hget : ∀ x, x ≠ i → (L.set i g)[x]? = L[x]? := fun x h => List.getElem?_set_ne (Ne.symm h)
  have hself : (L.set i g)[i]? = some g := List.getElem?_set_self hil
  have key : ∀ n d, d ≤ n → ∀ x y, RtN L d x y → ∃ d', d' ≤ d ∧ RtN (L.set i g) d' x y := by
    intro n
    induction n with
    | zero =>
      intro d hd x y h
      have : d = 0 := by omega
      subst this
      have hxi : x ≠ i := fun e => by
        subst e
        have := h.2
        rw [hi] at this
        injection this with this
        exact hne this
      exact ⟨0, Nat.le_refl _, h.1, by rw [hget x hxi]; exact h.2⟩
    | succ n ih =>
      intro d hd x y h
      cases d with
      | zero =>
        have hxi : x ≠ i := fun e => by
          subst e
          have := h.2
          rw [hi] at this
          injection this with this
          exact hne this
        exact ⟨0, Nat.le_refl _, h.1, by rw [hget x hxi]; exact h.2⟩
      | succ d =>
        obtain ⟨z, hz, hzx, hr⟩ := id h
        by_cases hxi : x = i
        · subst hxi
          rw [hi] at hz
          injection hz with hz
          subst hz
          cases d with
          | zero =>
            have hjg : g = j := by
              have := hr.2
              rw [hj] at this
              injection this
            subst hjg
            exact ⟨1, Nat.le_refl _, g, hself, hzx, hr.1, by rw [hget g hzx]; exact hr.2⟩
          | succ d =>
            obtain ⟨g', hg', hgj, hr2⟩ := hr
            rw [hj] at hg'
            injection hg' with hg'
            subst hg'
            have hgx : g ≠ x := fun e => by
              rw [e] at hr2
              have := (RtN.uniq h hr2).1
              omega
            obtain ⟨d', hd', hr3⟩ := ih d (by omega) g y hr2
            exact ⟨d' + 1, by omega, g, hself, hgx, hr3⟩
        · obtain ⟨d', hd', hr3⟩ := ih d (by omega) z y hr
          exact ⟨d' + 1, by omega, z, by rw [hget x hxi]; exact hz, hzx, hr3⟩
  refine ⟨⟨List.length_set .., fun d => key d d (Nat.le_refl _)⟩, ?_⟩
  cases k with
  | zero =>
    have hjg : g = j := by
      have := hkj.2
      rw [hj] at this
      injection this
    subst hjg
    obtain ⟨d', hd', hr⟩ := key 0 0 (Nat.le_refl _) g r hkj
    exact ⟨d', by omega, hr⟩
  | succ k =>
    obtain ⟨g', hg', hgj, hr2⟩ := hkj
    rw [hj] at hg'
    injection hg' with hg'
    subst hg'
    obtain ⟨d', hd', hr⟩ := key k k (Nat.le_refl _) g r hr2
    exact ⟨d', by omega, hr⟩
end DL
namespace DL
open PySem L2
/-! ### joining two tops -/
theorem link {L : List Nat} {one other : Nat} (h1 : L[one]? = some one) (h2 : L[other]? = some other) (hne : other ≠ one) : ∀ {d x r : Nat}, RtN L d x r → ∃ d', RtN (L.set one other) d' x (if r = one then other else r) := by
  have hl := (List.getElem?_eq_some_iff.mp h1).1
  have hself : (L.set one other)[one]? = some other := List.getElem?_set_self hl
  have hget : ∀ x, x ≠ one → (L.set one other)[x]? = L[x]? := fun x h => List.getElem?_set_ne (Ne.symm h)
  intro d
  induction d with
  | zero =>
    rintro x r ⟨rfl, hx⟩
    by_cases e : x = one
    · subst e
      rw [if_pos rfl]
      exact ⟨1, other, hself, hne, rfl, by rw [hget other hne]; exact h2⟩
    · rw [if_neg e]
      exact ⟨0, rfl, by rw [hget x e]; exact hx⟩
  | succ d ih =>
    rintro x r ⟨z, hz, hzx, hr⟩
    have e : x ≠ one := fun e => by
      subst e
      rw [h1] at hz
      injection hz with hz
      exact hzx hz.symm
    obtain ⟨d', h'⟩ := ih hr
    exact ⟨d' + 1, z, by rw [hget x e]; exact hz, hzx, h'⟩
/-- each number below n reaches a top -/
def Rooted (n : Nat) (L : List Nat) : Prop := L.length = n ∧ ∀ x, x < n → ∃ d r, RtN L d x r
theorem Rooted.start (n : Nat) : Rooted n (List.range n) := ⟨List.length_range, fun x hx => ⟨0, x, rfl, by rw [List.getElem?_range hx]⟩⟩
theorem Rooted.same {n : Nat} {L L' : List Nat} (h : Rooted n L) (h' : SameTops L L') : Rooted n L' := ⟨h'.1.trans h.1, fun x hx => by
  obtain ⟨d, r, k⟩ := h.2 x hx
  obtain ⟨d', _, k'⟩ := h'.2 d x r k
  exact ⟨d', r, k'⟩⟩
theorem Rooted.link {n : Nat} {L : List Nat} {one other : Nat} (h : Rooted n L) (h1 : L[one]? = some one) (h2 : L[other]? = some other) (hne : other ≠ one) : Rooted n (L.set one other) := ⟨by rw [List.length_set]; exact h.1, fun x hx => by
  obtain ⟨d, r, k⟩ := h.2 x hx
  obtain ⟨d', k'⟩ := DL.link h1 h2 hne k
  exact ⟨d', _, k'⟩⟩
/-- of one top -/
def SameTop (L : List Nat) (x y : Nat) : Prop := ∃ d d' r, RtN L d x r ∧ RtN L d' y r
theorem SameTop.symm {L : List Nat} {x y : Nat} (h : SameTop L x y) : SameTop L y x := by
  obtain ⟨d, d', r, h1, h2⟩ := h
  exact ⟨d', d, r, h2, h1⟩
theorem SameTop.trans {L : List Nat} {x y z : Nat} (h : SameTop L x y) (h' : SameTop L y z) : SameTop L x z := by
  obtain ⟨d, d', r, h1, h2⟩ := h
  obtain ⟨e, e', r', h3, h4⟩ := h'
  have := (RtN.uniq h2 h3).2
  subst this
  exact ⟨d, e', r, h1, h4⟩
theorem SameTop.same {L L' : List Nat} {x y : Nat} (h : SameTop L x y) (h' : SameTops L L') : SameTop L' x y := by
  obtain ⟨d, d', r, h1, h2⟩ := h
  obtain ⟨e, _, k⟩ := h'.2 _ _ _ h1
  obtain ⟨e', _, k'⟩ := h'.2 _ _ _ h2
  exact ⟨e, e', r, k, k'⟩
theorem SameTop.link {L : List Nat} {one other x y : Nat} (h : SameTop L x y) (h1 : L[one]? = some one) (h2 : L[other]? = some other) (hne : other ≠ one) : SameTop (L.set one other) x y := by
  obtain ⟨d, d', r, k, k'⟩ := h
  obtain ⟨e, q⟩ := DL.link h1 h2 hne k
  obtain ⟨e', q'⟩ := DL.link h1 h2 hne k'
  exact ⟨e, e', _, q, q'⟩
/-- joined by tops and by pairs that still wait -/
inductive Cn (L : List Nat) (W : List (Nat × Nat)) : Nat → Nat → Prop
  | top {x y : Nat} : SameTop L x y → Cn L W x y
  | pair {x y : Nat} : (x, y) ∈ W → Cn L W x y
  | symm {x y : Nat} : Cn L W x y → Cn L W y x
  | trans {x y z : Nat} : Cn L W x y → Cn L W y z → Cn L W x z
theorem Cn.mono {L L' : List Nat} {W W' : List (Nat × Nat)} (ht : ∀ x y, SameTop L x y → Cn L' W' x y) (hp : ∀ x y, (x, y) ∈ W → Cn L' W' x y) {x y : Nat} (h : Cn L W x y) : Cn L' W' x y := by
  induction h with
  | top h => exact ht _ _ h
  | pair h => exact hp _ _ h
  | symm _ ih => exact ih.symm
  | trans _ _ ih1 ih2 => exact ih1.trans ih2
theorem Cn.done {L : List Nat} {x y : Nat} (h : Cn L [] x y) : SameTop L x y := by
  induction h with
  | top h => exact h
  | pair h => cases h
  | symm _ ih => exact ih.symm
  | trans _ _ ih1 ih2 => exact ih1.trans ih2
/-- how many tops there are -/
def tops (L : List Nat) : Nat := (List.range L.length).countP fun i => decide (L[i]? = some i)
theorem tops_link {L : List Nat} {one other : Nat} (h1 : L[one]? = some one) (h2 : L[other]? = some other) (hne : other ≠ one) : tops (L.set one other) < tops L := by
  have hl := (List.getElem?_eq_some_iff.mp h1).1
  unfold tops
  rw [List.length_set]
  have e : ∀ i ∈ List.range L.length, decide ((L.set one other)[i]? = some i) = true → decide (L[i]? = some i) = true := fun i hi h => by
    have h := of_decide_eq_true h
    refine decide_eq_true ?_
    by_cases hio : i = one
    · subst hio
      rw [List.getElem?_set_self hl] at h
      exact absurd (Option.some.inj h) hne
    · rw [List.getElem?_set_ne (Ne.symm hio)] at h
      exact h
  obtain ⟨as, bs, hab⟩ := List.append_of_mem (List.mem_range.mpr hl)
  rw [hab, List.countP_append, List.countP_append, List.countP_cons, List.countP_cons]
  have m1 : as.countP (fun i => decide ((L.set one other)[i]? = some i)) ≤ as.countP (fun i => decide (L[i]? = some i)) := List.countP_mono_left fun i hi => e i (by rw [hab]; simp [hi])
  have m2 : bs.countP (fun i => decide ((L.set one other)[i]? = some i)) ≤ bs.countP (fun i => decide (L[i]? = some i)) := List.countP_mono_left fun i hi => e i (by rw [hab]; simp [hi])
  have n1 : decide ((L.set one other)[one]? = some one) = false := decide_eq_false fun h => by
    rw [List.getElem?_set_self hl] at h
    injection h with h
    exact hne h
  have n2 : decide (L[one]? = some one) = true := decide_eq_true h1
  rw [n1, n2]
  simp only [Bool.false_eq_true, if_false, if_true]
  omega
theorem tops_same {n : Nat} {L L' : List Nat} (h : Rooted n L) (h' : SameTops L L') : tops L' ≤ tops L := by
  unfold tops
  rw [h'.1]
  refine List.countP_mono_left fun i hi hh => ?_
  have hh := of_decide_eq_true hh
  refine decide_eq_true ?_
  obtain ⟨d, r, k⟩ := h.2 i (by rw [← h.1]; exact List.mem_range.mp hi)
  obtain ⟨d', _, k'⟩ := h'.2 d i r k
  have := (RtN.uniq k' (show RtN L' 0 i i from ⟨rfl, hh⟩)).2
  subst this
  exact k.top
theorem sameTop_cases {n : Nat} {L : List Nat} {a b x y : Nat} (hr : Rooted n L) (h1 : L[a]? = some a) (h2 : L[b]? = some b) (hne : b ≠ a) (hx : x < n) (hy : y < n) (h : SameTop (L.set a b) x y) :
    SameTop L x y ∨ (SameTop L x a ∧ SameTop L y b) ∨ (SameTop L x b ∧ SameTop L y a) := by
  obtain ⟨d, d', r, k, k'⟩ := h
  obtain ⟨e, q, m⟩ := hr.2 x hx
  obtain ⟨e', q', m'⟩ := hr.2 y hy
  obtain ⟨g, l⟩ := DL.link h1 h2 hne m
  obtain ⟨g', l'⟩ := DL.link h1 h2 hne m'
  have u1 := (RtN.uniq k l).2
  have u2 := (RtN.uniq k' l').2
  by_cases c1 : q = a
  · by_cases c2 : q' = a
    · exact .inl ⟨e, e', a, by rw [← c1]; exact m, by rw [← c2]; exact m'⟩
    · rw [if_pos c1] at u1
      rw [if_neg c2] at u2
      refine .inr (.inl ⟨⟨e, 0, a, by rw [← c1]; exact m, rfl, h1⟩, ⟨e', 0, b, ?_, rfl, h2⟩⟩)
      rw [← u1, u2]
      exact m'
  · by_cases c2 : q' = a
    · rw [if_neg c1] at u1
      rw [if_pos c2] at u2
      refine .inr (.inr ⟨⟨e, 0, b, ?_, rfl, h2⟩, ⟨e', 0, a, by rw [← c2]; exact m', rfl, h1⟩⟩)
      rw [← u2, u1]
      exact m
    · rw [if_neg c1] at u1
      rw [if_neg c2] at u2
      exact .inl ⟨e, e', r, by rw [u1]; exact m, by rw [u2]; exact m'⟩
/-! ### what joining keeps -/
structure Joined (s t : Tm) (P : List Tm) (F : List Nat) (W : List (Nat × Nat)) (L : List Nat) : Prop where
  laid : Laid s t P F P.length
  root : Rooted P.length L
  bound : ∀ p ∈ W, p.1 < P.length ∧ p.2 < P.length
  tops : ∀ θ : Fl, s.fill θ = t.fill θ → ∀ x y u v, SameTop L x y → P[x]? = some u → P[y]? = some v → u.fill θ = v.fill θ
  waits : ∀ θ : Fl, s.fill θ = t.fill θ → ∀ p ∈ W, ∀ u v, P[p.1]? = some u → P[p.2]? = some v → u.fill θ = v.fill θ
  vars : ∀ x r i, SameTop L x r → L[r]? = some r → P[r]? = some (.var i) → ∃ j, P[x]? = some (.var j)
  cong : ∀ x y f g ts us, SameTop L x y → P[x]? = some (.app f ts) → P[y]? = some (.app g us) → f = g ∧ ts.length = us.length ∧ ∀ o o', F[x]? = some o → F[y]? = some o' → ∀ k, k < ts.length → Cn L W (o + k) (o' + k)
  zero : Cn L W 0 1
  like : ∀ x y v, P[x]? = some (.var v) → P[y]? = some (.var v) → Cn L W x y
theorem Joined.same {s t : Tm} {P : List Tm} {F : List Nat} {W : List (Nat × Nat)} {L L' : List Nat} (h : Joined s t P F W L) (h' : SameTops L L') : Joined s t P F W L' := by
  have hr := h.root.same h'
  have back : ∀ x y, x < P.length → y < P.length → SameTop L' x y → SameTop L x y := fun x y hx hy q => by
    obtain ⟨d, d', r, k, k'⟩ := q
    obtain ⟨e, q, m⟩ := h.root.2 x hx
    obtain ⟨e', q', m'⟩ := h.root.2 y hy
    obtain ⟨g, _, l⟩ := h'.2 _ _ _ m
    obtain ⟨g', _, l'⟩ := h'.2 _ _ _ m'
    have u1 := (RtN.uniq k l).2
    have u2 := (RtN.uniq k' l').2
    exact ⟨e, e', r, by rw [u1]; exact m, by rw [u2]; exact m'⟩
  have lt : ∀ {x : Nat} {u : Tm}, P[x]? = some u → x < P.length := fun hx => (List.getElem?_eq_some_iff.mp hx).1
  have rt : ∀ {d x y}, RtN L' d x y → x < P.length := fun q => by have := q.lt; rw [hr.1] at this; exact this
  have cn : ∀ {x y : Nat}, Cn L W x y → Cn L' W x y := fun q => q.mono (fun x y z => .top (z.same h')) (fun x y z => .pair z)
  refine ⟨h.laid, hr, h.bound, fun θ hθ x y u v q hx hy => h.tops θ hθ x y u v (back x y (lt hx) (lt hy) q) hx hy, h.waits, fun x r i q hrr hp => ?_, fun x y f g ts us q hx hy => ?_, cn h.zero, fun x y v hx hy => cn (h.like x y v hx hy)⟩
  · have hx : x < P.length := by obtain ⟨_, _, _, k, _⟩ := q; exact rt k
    have q0 := back x r hx (lt hp) q
    obtain ⟨e, q', m⟩ := h.root.2 r (lt hp)
    obtain ⟨g, _, l⟩ := h'.2 _ _ _ m
    have u1 := (RtN.uniq l (show RtN L' 0 r r from ⟨rfl, hrr⟩)).2
    subst u1
    exact h.vars x _ i q0 m.top hp
  · obtain ⟨h1, h2, h3⟩ := h.cong x y f g ts us (back x y (lt hx) (lt hy) q) hx hy
    exact ⟨h1, h2, fun o o' ho ho' k hk => cn (h3 o o' ho ho' k hk)⟩
end DL
namespace DL
open PySem L2
theorem SameTop.self {L : List Nat} {d x r : Nat} (h : RtN L d x r) : SameTop L x r := ⟨d, 0, r, h, rfl, h.top⟩
theorem Joined.pop {s t : Tm} {P : List Tm} {F : List Nat} {W : List (Nat × Nat)} {L : List Nat} {x y : Nat} (h : Joined s t P F (W ++ [(x, y)]) L) (e : SameTop L x y) : Joined s t P F W L := by
  have cn : ∀ {a b : Nat}, Cn L (W ++ [(x, y)]) a b → Cn L W a b := fun q => q.mono (fun _ _ z => .top z) fun a b z => by
    rcases List.mem_append.mp z with z | z
    · exact .pair z
    · have := List.mem_singleton.mp z
      injection this with e1 e2
      subst e1 e2
      exact .top e
  exact ⟨h.laid, h.root, fun p hp => h.bound p (List.mem_append_left _ hp), h.tops, fun θ hθ p hp => h.waits θ hθ p (List.mem_append_left _ hp), h.vars,
    fun a b f g ts us q ha hb => by obtain ⟨h1, h2, h3⟩ := h.cong a b f g ts us q ha hb; exact ⟨h1, h2, fun o o' ho ho' k hk => cn (h3 o o' ho ho' k hk)⟩, cn h.zero, fun a b v ha hb => cn (h.like a b v ha hb)⟩
theorem Joined.merge {s t : Tm} {P : List Tm} {F : List Nat} {W Z : List (Nat × Nat)} {L : List Nat} {x y a b d d' : Nat} (h : Joined s t P F (W ++ [(x, y)]) L) (hx : RtN L d x a) (hy : RtN L d' y b) (hne : b ≠ a)
    (hz : ∀ p ∈ Z, p.1 < P.length ∧ p.2 < P.length) (hw : ∀ θ : Fl, s.fill θ = t.fill θ → ∀ p ∈ Z, ∀ u v, P[p.1]? = some u → P[p.2]? = some v → u.fill θ = v.fill θ)
    (hv : (∃ i, P[a]? = some (.var i)) ∨ ∃ f ts, P[b]? = some (.app f ts))
    (hc : ∀ x' y' f g ts us, SameTop L x' a → SameTop L y' b → P[x']? = some (.app f ts) → P[y']? = some (.app g us) → f = g ∧ ts.length = us.length ∧ ∀ o o', F[x']? = some o → F[y']? = some o' → ∀ k, k < ts.length → Cn (L.set a b) (W ++ Z) (o + k) (o' + k)) :
    Joined s t P F (W ++ Z) (L.set a b) := by
  have ha := hx.top
  have hb := hy.top
  have hr := h.root
  have hr' := hr.link ha hb hne
  have hal : a < P.length := by have := (List.getElem?_eq_some_iff.mp ha).1; rw [hr.1] at this; exact this
  have hbl : b < P.length := by have := (List.getElem?_eq_some_iff.mp hb).1; rw [hr.1] at this; exact this
  have lt : ∀ {x : Nat} {u : Tm}, P[x]? = some u → x < P.length := fun hx => (List.getElem?_eq_some_iff.mp hx).1
  have stl : ∀ {p q : Nat}, SameTop (L.set a b) p q → p < P.length ∧ q < P.length := fun z => by
    obtain ⟨_, _, _, k, k'⟩ := z
    have h1 := k.lt
    have h2 := k'.lt
    rw [hr'.1] at h1 h2
    exact ⟨h1, h2⟩
  have cs : ∀ {p q : Nat}, SameTop (L.set a b) p q → SameTop L p q ∨ (SameTop L p a ∧ SameTop L q b) ∨ (SameTop L p b ∧ SameTop L q a) := fun z => sameTop_cases hr ha hb hne (stl z).1 (stl z).2 z
  have hself : (L.set a b)[a]? = some b := List.getElem?_set_self (by rw [hr.1]; exact hal)
  have hxy : SameTop (L.set a b) x y := by
    obtain ⟨e, k⟩ := DL.link ha hb hne hx
    obtain ⟨e', k'⟩ := DL.link ha hb hne hy
    rw [if_pos rfl] at k
    rw [if_neg hne] at k'
    exact ⟨e, e', b, k, k'⟩
  have cn : ∀ {p q : Nat}, Cn L (W ++ [(x, y)]) p q → Cn (L.set a b) (W ++ Z) p q := fun z => z.mono (fun _ _ z => .top (z.link ha hb hne)) fun p q z => by
    rcases List.mem_append.mp z with z | z
    · exact .pair (List.mem_append_left _ z)
    · have := List.mem_singleton.mp z
      injection this with e1 e2
      subst e1 e2
      exact .top hxy
  have hbnd := h.bound (x, y) (by simp)
  obtain ⟨px, hpx⟩ : ∃ u, P[x]? = some u := ⟨_, List.getElem?_eq_getElem hbnd.1⟩
  obtain ⟨py, hpy⟩ : ∃ u, P[y]? = some u := ⟨_, List.getElem?_eq_getElem hbnd.2⟩
  obtain ⟨pa, hpa⟩ : ∃ u, P[a]? = some u := ⟨_, List.getElem?_eq_getElem hal⟩
  obtain ⟨pb, hpb⟩ : ∃ u, P[b]? = some u := ⟨_, List.getElem?_eq_getElem hbl⟩
  have hab : ∀ θ : Fl, s.fill θ = t.fill θ → pa.fill θ = pb.fill θ := fun θ hθ => by
    have e1 := h.tops θ hθ x a px pa (.self hx) hpx hpa
    have e2 := h.tops θ hθ y b py pb (.self hy) hpy hpb
    have e3 := h.waits θ hθ (x, y) (by simp) px py hpx hpy
    rw [← e1, e3, e2]
  refine ⟨h.laid, hr', fun p hp => ?_, fun θ hθ p q u v z hp hq => ?_, fun θ hθ p hp => ?_, fun p r i z hrr hpr => ?_, fun p q f g ts us z hp hq => ?_, cn h.zero, fun p q v hp hq => cn (h.like p q v hp hq)⟩
  · rcases List.mem_append.mp hp with hp | hp
    · exact h.bound p (List.mem_append_left _ hp)
    · exact hz p hp
  · rcases cs z with z | ⟨z1, z2⟩ | ⟨z1, z2⟩
    · exact h.tops θ hθ p q u v z hp hq
    · rw [h.tops θ hθ p a u pa z1 hp hpa, hab θ hθ, h.tops θ hθ q b v pb z2 hq hpb]
    · rw [h.tops θ hθ p b u pb z1 hp hpb, ← hab θ hθ, h.tops θ hθ q a v pa z2 hq hpa]
  · rcases List.mem_append.mp hp with hp | hp
    · exact h.waits θ hθ p (List.mem_append_left _ hp)
    · exact hw θ hθ p hp
  · have hra : r ≠ a := fun e => by
      subst e
      rw [hself] at hrr
      exact hne (Option.some.inj hrr)
    have hrL : L[r]? = some r := by rw [List.getElem?_set_ne (Ne.symm hra)] at hrr; exact hrr
    have only : ∀ {c : Nat}, L[c]? = some c → SameTop L r c → r = c := fun hc z => by
      obtain ⟨_, _, w, k, k'⟩ := z
      have e1 := (RtN.uniq k (show RtN L 0 r r from ⟨rfl, hrL⟩)).2
      have e2 := (RtN.uniq k' (show RtN L 0 _ _ from ⟨rfl, hc⟩)).2
      exact e1.symm.trans e2
    rcases cs z with z | ⟨z1, z2⟩ | ⟨z1, z2⟩
    · exact h.vars p r i z hrL hpr
    · have e := only hb z2
      subst e
      rcases hv with ⟨j, hj⟩ | ⟨f, ts, hf⟩
      · exact h.vars p a j z1 ha hj
      · rw [hpr] at hf; cases hf
    · exact absurd (only ha z2) hra
  · rcases cs z with z | ⟨z1, z2⟩ | ⟨z1, z2⟩
    · obtain ⟨h1, h2, h3⟩ := h.cong p q f g ts us z hp hq
      exact ⟨h1, h2, fun o o' ho ho' k hk => cn (h3 o o' ho ho' k hk)⟩
    · exact hc p q f g ts us z1 z2 hp hq
    · obtain ⟨h1, h2, h3⟩ := hc q p g f us ts z2 z1 hq hp
      exact ⟨h1.symm, h2.symm, fun o o' ho ho' k hk => (h3 o' o ho' ho k (by omega)).symm⟩
theorem Joined.clash {s t : Tm} {P : List Tm} {F : List Nat} {W : List (Nat × Nat)} {L : List Nat} {x y a b d d' : Nat} {f g : Str} {ts us : List Tm} (h : Joined s t P F (W ++ [(x, y)]) L) (hx : RtN L d x a) (hy : RtN L d' y b)
    (ha : P[a]? = some (.app f ts)) (hb : P[b]? = some (.app g us)) (hn : ¬ (f = g ∧ ts.length = us.length)) (θ : Fl) : s.fill θ ≠ t.fill θ := fun hθ => by
  have hbnd := h.bound (x, y) (by simp)
  obtain ⟨px, hpx⟩ : ∃ u, P[x]? = some u := ⟨_, List.getElem?_eq_getElem hbnd.1⟩
  obtain ⟨py, hpy⟩ : ∃ u, P[y]? = some u := ⟨_, List.getElem?_eq_getElem hbnd.2⟩
  have e1 := h.tops θ hθ x a px _ (.self hx) hpx ha
  have e2 := h.tops θ hθ y b py _ (.self hy) hpy hb
  have e3 := h.waits θ hθ (x, y) (by simp) px py hpx hpy
  rw [e1, e2, Tm.fill_app, Tm.fill_app] at e3
  injection e3 with e4 e5
  have := congrArg List.length e5
  rw [List.length_map, List.length_map] at this
  exact hn ⟨e4, this⟩
theorem Joined.swap {s t : Tm} {P : List Tm} {F : List Nat} {W : List (Nat × Nat)} {L : List Nat} {x y : Nat} (h : Joined s t P F (W ++ [(x, y)]) L) : Joined s t P F (W ++ [(y, x)]) L := by
  have cn : ∀ {a b : Nat}, Cn L (W ++ [(x, y)]) a b → Cn L (W ++ [(y, x)]) a b := fun q => q.mono (fun _ _ z => .top z) fun a b z => by
    rcases List.mem_append.mp z with z | z
    · exact .pair (List.mem_append_left _ z)
    · have := List.mem_singleton.mp z
      injection this with e1 e2
      subst e1 e2
      exact (Cn.pair (by simp)).symm
  have hm : ∀ {p : Nat × Nat}, p ∈ W ++ [(y, x)] → p ∈ W ∨ p = (y, x) := fun hp => by simpa using hp
  refine ⟨h.laid, h.root, fun p hp => ?_, h.tops, fun θ hθ p hp u v hu hv => ?_, h.vars, fun a b f g ts us q ha hb => ?_, cn h.zero, fun a b v ha hb => cn (h.like a b v ha hb)⟩
  · rcases hm hp with hp | rfl
    · exact h.bound p (List.mem_append_left _ hp)
    · exact (h.bound (x, y) (by simp)).symm
  · rcases hm hp with hp | rfl
    · exact h.waits θ hθ p (List.mem_append_left _ hp) u v hu hv
    · exact (h.waits θ hθ (x, y) (by simp) v u hv hu).symm
  · obtain ⟨h1, h2, h3⟩ := h.cong a b f g ts us q ha hb
    exact ⟨h1, h2, fun o o' ho ho' k hk => cn (h3 o o' ho ho' k hk)⟩
theorem Joined.var {s t : Tm} {P : List Tm} {F : List Nat} {W : List (Nat × Nat)} {L : List Nat} {x y a b d d' : Nat} {i : Int} (h : Joined s t P F (W ++ [(x, y)]) L) (hx : RtN L d x a) (hy : RtN L d' y b) (hne : b ≠ a) (ha : P[a]? = some (.var i)) :
    Joined s t P F W (L.set a b) := by
  have := h.merge (Z := []) hx hy hne (fun p hp => by cases hp) (fun θ _ p hp => by cases hp) (.inl ⟨i, ha⟩) fun x' y' f g ts us z1 z2 hp hq => by
    obtain ⟨j, hj⟩ := h.vars x' a i z1 hx.top ha
    rw [hp] at hj
    cases hj
  rw [List.append_nil] at this
  exact this
theorem Joined.app {s t : Tm} {P : List Tm} {F : List Nat} {W : List (Nat × Nat)} {L : List Nat} {x y a b d d' oa ob : Nat} {f : Str} {ts us : List Tm} (h : Joined s t P F (W ++ [(x, y)]) L) (hx : RtN L d x a) (hy : RtN L d' y b) (hne : b ≠ a)
    (ha : P[a]? = some (.app f ts)) (hb : P[b]? = some (.app f us)) (hl : ts.length = us.length) (hoa : F[a]? = some oa) (hob : F[b]? = some ob) :
    Joined s t P F (W ++ (List.range ts.length).map fun k => (oa + k, ob + k)) (L.set a b) := by
  have lt : ∀ {x : Nat} {u : Tm}, P[x]? = some u → x < P.length := fun hx => (List.getElem?_eq_some_iff.mp hx).1
  obtain ⟨oa', e1, _, _, la, ga⟩ := h.laid.at_ a (lt ha) _ ha
  obtain ⟨ob', e2, _, _, lb, gb⟩ := h.laid.at_ b (lt hb) _ hb
  rw [hoa] at e1
  rw [hob] at e2
  cases e1
  cases e2
  have pa : (Tm.app f ts).parts = ts := rfl
  have pb : (Tm.app f us).parts = us := rfl
  rw [pa] at la ga
  rw [pb] at lb gb
  have hzm : ∀ {p : Nat × Nat}, p ∈ (List.range ts.length).map (fun k => (oa + k, ob + k)) → ∃ k, k < ts.length ∧ p = (oa + k, ob + k) := fun hp => by
    obtain ⟨k, hk, rfl⟩ := List.mem_map.mp hp
    exact ⟨k, List.mem_range.mp hk, rfl⟩
  have hbnd := h.bound (x, y) (by simp)
  obtain ⟨px, hpx⟩ : ∃ u, P[x]? = some u := ⟨_, List.getElem?_eq_getElem hbnd.1⟩
  obtain ⟨py, hpy⟩ : ∃ u, P[y]? = some u := ⟨_, List.getElem?_eq_getElem hbnd.2⟩
  refine h.merge hx hy hne (fun p hp => ?_) (fun θ hθ p hp u v hu hv => ?_) (.inr ⟨f, us, hb⟩) fun x' y' f' g' ts' us' z1 z2 hp hq => ?_
  · obtain ⟨k, hk, rfl⟩ := hzm hp
    exact ⟨by show oa + k < P.length; omega, by show ob + k < P.length; omega⟩
  · obtain ⟨k, hk, rfl⟩ := hzm hp
    dsimp only at hu hv
    rw [ga k hk] at hu
    rw [gb k (by omega)] at hv
    have e1 := h.tops θ hθ x a px _ (.self hx) hpx ha
    have e2 := h.tops θ hθ y b py _ (.self hy) hpy hb
    have e3 := h.waits θ hθ (x, y) (by simp) px py hpx hpy
    rw [e1, e2, Tm.fill_app, Tm.fill_app] at e3
    injection e3 with _ e5
    have := congrArg (fun l => l[k]?) e5
    simp only [List.getElem?_map, hu, hv, Option.map_some] at this
    exact Option.some.inj this
  · obtain ⟨h1, h2, h3⟩ := h.cong x' a f' f ts' ts z1 hp ha
    obtain ⟨h4, h5, h6⟩ := h.cong b y' f g' us us' z2.symm hb hq
    refine ⟨h1.trans h4, by omega, fun o o' ho ho' k hk => ?_⟩
    have hxy : SameTop (L.set a b) x y := by
      obtain ⟨e, k⟩ := DL.link hx.top hy.top hne hx
      obtain ⟨e', k'⟩ := DL.link hx.top hy.top hne hy
      rw [if_pos rfl] at k
      rw [if_neg hne] at k'
      exact ⟨e, e', b, k, k'⟩
    have cn : ∀ {p q : Nat}, Cn L (W ++ [(x, y)]) p q → Cn (L.set a b) (W ++ (List.range ts.length).map fun k => (oa + k, ob + k)) p q := fun z => z.mono (fun _ _ z => .top (z.link hx.top hy.top hne)) fun p q z => by
      rcases List.mem_append.mp z with z | z
      · exact .pair (List.mem_append_left _ z)
      · have := List.mem_singleton.mp z
        injection this with e1 e2
        subst e1 e2
        exact .top hxy
    have c1 := cn (h3 o oa ho hoa k hk)
    have c2 := cn (h6 ob o' hob ho' k (by omega))
    have c3 : Cn (L.set a b) (W ++ (List.range ts.length).map fun k => (oa + k, ob + k)) (oa + k) (ob + k) := .pair (List.mem_append_right _ (List.mem_map.mpr ⟨k, List.mem_range.mpr (by omega), rfl⟩))
    exact (c1.trans c3).trans c2
theorem Joined.start {s t : Tm} {P : List Tm} {F : List Nat} {lb : List (Nat × Nat)} (h : Laid s t P F P.length) (sound : ∀ p ∈ lb, ∃ v, P[p.1]? = some (.var v) ∧ P[p.2]? = some (.var v))
    (all : ∀ v : Int, (∀ x : Nat, P[x]? ≠ some (.var v)) ∨ ∃ f : Nat, P[f]? = some (.var v) ∧ ∀ x : Nat, P[x]? = some (.var v) → (f, x) ∈ lb) : Joined s t P F (lb ++ [(0, 1)]) (List.range P.length) := by
  have tp : ∀ {d x r : Nat}, RtN (List.range P.length) d x r → x = r := fun {d x r} k => by
    have hx := k.lt
    rw [List.length_range] at hx
    exact (RtN.uniq k (show RtN (List.range P.length) 0 x x from ⟨rfl, by rw [List.getElem?_range hx]⟩)).2.symm
  have st : ∀ {x y : Nat}, SameTop (List.range P.length) x y → x = y := fun z => by
    obtain ⟨_, _, r, k, k'⟩ := z
    rw [tp k, tp k']
  have hm : ∀ {p : Nat × Nat}, p ∈ lb ++ [(0, 1)] → p ∈ lb ∨ p = (0, 1) := fun hp => by simpa using hp
  have h2 := h.two
  refine ⟨h, .start _, fun p hp => ?_, fun θ hθ x y u v z hx hy => ?_, fun θ hθ p hp u v hu hv => ?_, fun x r i z _ hp => ?_, fun x y f g ts us z hx hy => ?_, .pair (by simp), fun x y v hx hy => ?_⟩
  · rcases hm hp with hp | rfl
    · obtain ⟨v, h1, h2⟩ := sound p hp
      exact ⟨(List.getElem?_eq_some_iff.mp h1).1, (List.getElem?_eq_some_iff.mp h2).1⟩
    · exact ⟨by show 0 < P.length; omega, by show 1 < P.length; omega⟩
  · have e := st z
    subst e
    rw [hx] at hy
    cases hy
    rfl
  · rcases hm hp with hp | rfl
    · obtain ⟨w, h1, h2⟩ := sound p hp
      rw [h1] at hu
      rw [h2] at hv
      cases hu
      cases hv
      rfl
    · dsimp only at hu hv
      rw [h.zero] at hu
      rw [h.one] at hv
      cases hu
      cases hv
      exact hθ
  · have e := st z
    subst e
    exact ⟨i, hp⟩
  · have e := st z
    subst e
    rw [hx] at hy
    cases hy
    refine ⟨rfl, rfl, fun o o' ho ho' k hk => ?_⟩
    rw [ho] at ho'
    cases ho'
    obtain ⟨o2, e1, _, _, la, _⟩ := h.at_ x (List.getElem?_eq_some_iff.mp hx).1 _ hx
    rw [ho] at e1
    cases e1
    have pa : (Tm.app f ts).parts = ts := rfl
    rw [pa] at la
    exact .top (.self (d := 0) ⟨rfl, by rw [List.getElem?_range (by omega)]⟩)
  · rcases all v with hv | ⟨f, _, hf⟩
    · exact absurd hx (hv x)
    · exact (Cn.pair (List.mem_append_left _ (hf x hx))).symm.trans (.pair (List.mem_append_left _ (hf y hy)))
end DL
namespace DL
open PySem L2
/-! ### what a part is filled to -/
inductive Val (P : List Tm) (F L : List Nat) : Nat → Tm → Prop
  | var {x r : Nat} {i : Int} : SameTop L x r → L[r]? = some r → P[r]? = some (.var i) → Val P F L x (.var i)
  | app {x r o : Nat} {f : Str} {ts us : List Tm} : SameTop L x r → L[r]? = some r → P[r]? = some (.app f ts) → F[r]? = some o → us.length = ts.length → (∀ k u, us[k]? = some u → Val P F L (o + k) u) → Val P F L x (.app f us)
theorem SameTop.tops {L : List Nat} {x r r' : Nat} (h : SameTop L x r) (h' : SameTop L x r') (t : L[r]? = some r) (t' : L[r']? = some r') : r = r' := by
  obtain ⟨_, _, a, k1, k2⟩ := h
  obtain ⟨_, _, b, k3, k4⟩ := h'
  have e1 := (RtN.uniq k2 (show RtN L 0 r r from ⟨rfl, t⟩)).2
  have e2 := (RtN.uniq k4 (show RtN L 0 r' r' from ⟨rfl, t'⟩)).2
  have e3 := (RtN.uniq k1 k3).2
  omega
theorem Val.same {P : List Tm} {F L : List Nat} {x y : Nat} {u : Tm} (h : Val P F L x u) (e : SameTop L x y) : Val P F L y u := by
  cases h with
  | var h1 h2 h3 => exact .var (e.symm.trans h1) h2 h3
  | app h1 h2 h3 h4 h5 h6 => exact .app (e.symm.trans h1) h2 h3 h4 h5 h6
theorem Val.uniq {P : List Tm} {F L : List Nat} {x : Nat} {u : Tm} (h : Val P F L x u) : ∀ {v : Tm}, Val P F L x v → u = v := by
  induction h with
  | var h1 h2 h3 =>
    intro v h'
    cases h' with
    | var g1 g2 g3 => have e := h1.tops g1 h2 g2; subst e; rw [h3] at g3; exact Option.some.inj g3
    | app g1 g2 g3 => have e := h1.tops g1 h2 g2; subst e; rw [h3] at g3; cases g3
  | @app x r o f ts us h1 h2 h3 h4 h5 h6 ih =>
    intro v h'
    cases h' with
    | var g1 g2 g3 => have e := h1.tops g1 h2 g2; subst e; rw [h3] at g3; cases g3
    | @app _ r' o' f' ts' us' g1 g2 g3 g4 g5 g6 =>
      have e := h1.tops g1 h2 g2
      subst e
      rw [h3] at g3
      rw [h4] at g4
      cases g3
      cases g4
      congr 1
      refine List.ext_getElem? fun k => ?_
      cases hk : us[k]? with
      | none =>
        rw [List.getElem?_eq_none_iff] at hk
        exact (List.getElem?_eq_none (by omega)).symm
      | some a =>
        have hkl := (List.getElem?_eq_some_iff.mp hk).1
        obtain ⟨b, hb⟩ : ∃ b, us'[k]? = some b := ⟨_, List.getElem?_eq_getElem (by omega)⟩
        rw [hb, ih k a hk (g6 k b hb)]
section
variable {s t : Tm} {P : List Tm} {F L : List Nat}
theorem Laid.kid (h : Laid s t P F P.length) {x o k : Nat} {f : Str} {ts : List Tm} (hx : P[x]? = some (.app f ts)) (ho : F[x]? = some o) (hk : k < ts.length) : P[o + k]? = ts[k]? ∧ x < o ∧ o + k < P.length := by
  obtain ⟨o', h1, h2, _, h4, h5⟩ := h.at_ x (List.getElem?_eq_some_iff.mp hx).1 _ hx
  rw [ho] at h1
  cases h1
  have : (Tm.app f ts).parts = ts := rfl
  rw [this] at h4 h5
  exact ⟨h5 k hk, h2, by omega⟩
/-- as open as can be -/
theorem Val.open_ (J : Joined s t P F [] L) {x : Nat} {u : Tm} (h : Val P F L x u) : ∀ {θ : Fl}, s.fill θ = t.fill θ → ∀ {p : Tm}, P[x]? = some p → u.fill θ = p.fill θ := by
  induction h with
  | var h1 h2 h3 =>
    intro θ hθ p hp
    exact (J.tops θ hθ _ _ _ _ h1 hp h3).symm
  | @app x r o f ts us h1 h2 h3 h4 h5 h6 ih =>
    intro θ hθ p hp
    rw [J.tops θ hθ _ _ _ _ h1 hp h3, Tm.fill_app, Tm.fill_app]
    congr 1
    refine List.ext_getElem? fun k => ?_
    rw [List.getElem?_map, List.getElem?_map]
    cases hk : us[k]? with
    | none =>
      rw [List.getElem?_eq_none_iff] at hk
      rw [List.getElem?_eq_none (l := ts) (by omega)]
    | some a =>
      have hkl := (List.getElem?_eq_some_iff.mp hk).1
      obtain ⟨b, hb⟩ : ∃ b, ts[k]? = some b := ⟨_, List.getElem?_eq_getElem (by omega)⟩
      rw [hb]
      have := J.laid.kid h3 h4 (k := k) (by omega)
      rw [hb] at this
      show some _ = some _
      rw [ih k a hk hθ this.1]
theorem Joined.like' (J : Joined s t P F [] L) {x y : Nat} {v : Int} (hx : P[x]? = some (.var v)) (hy : P[y]? = some (.var v)) : SameTop L x y := (J.like x y v hx hy).done
/-- each top of a part with a name has one -/
theorem Joined.top_app (J : Joined s t P F [] L) {x r : Nat} {f : Str} {ts : List Tm} (h : SameTop L x r) (hr : L[r]? = some r) (hx : P[x]? = some (.app f ts)) : ∃ us, P[r]? = some (.app f us) ∧ us.length = ts.length ∧ ∀ o o', F[x]? = some o → F[r]? = some o' → ∀ k, k < ts.length → SameTop L (o + k) (o' + k) := by
  have hrl : r < P.length := by have := (List.getElem?_eq_some_iff.mp hr).1; rw [J.root.1] at this; exact this
  obtain ⟨p, hp⟩ : ∃ p, P[r]? = some p := ⟨_, List.getElem?_eq_getElem hrl⟩
  cases p with
  | var i =>
    obtain ⟨j, hj⟩ := J.vars x r i h hr hp
    rw [hx] at hj
    cases hj
  | app g us =>
    obtain ⟨h1, h2, h3⟩ := J.cong x r f g ts us h hx hp
    subst h1
    exact ⟨us, hp, h2.symm, fun o o' ho ho' k hk => (h3 o o' ho ho' k hk).done⟩
/-- a filling by what the blanks' tops are filled to makes of each part what its top is filled to -/
theorem Val.fills (J : Joined s t P F [] L) {θ : Fl} (hv : ∀ (x : Nat) (v : Int) (u : Tm), P[x]? = some (.var v) → Val P F L x u → (Tm.var v).fill θ = u) : ∀ {p : Tm} {x : Nat} {u : Tm}, P[x]? = some p → Val P F L x u → p.fill θ = u := by
  intro p
  refine Tm.ind (P := fun p => ∀ {x : Nat} {u : Tm}, P[x]? = some p → Val P F L x u → p.fill θ = u) (fun i => ?_) (fun f ts ih => ?_) p
  · intro x u hx hu
    exact hv x i u hx hu
  · intro x u hx hu
    cases hu with
    | @var _ r i h1 h2 h3 =>
      obtain ⟨us, h4, _⟩ := J.top_app h1 h2 hx
      rw [h3] at h4
      cases h4
    | @app _ r o g ts' us h1 h2 h3 h4 h5 h6 =>
      obtain ⟨us', h7, h8, h9⟩ := J.top_app h1 h2 hx
      rw [h3] at h7
      cases h7
      rw [Tm.fill_app]
      congr 1
      refine List.ext_getElem? fun k => ?_
      rw [List.getElem?_map]
      cases hk : us[k]? with
      | none =>
        rw [List.getElem?_eq_none_iff] at hk
        rw [List.getElem?_eq_none (by omega)]
        rfl
      | some a =>
        have hkl := (List.getElem?_eq_some_iff.mp hk).1
        obtain ⟨b, hb⟩ : ∃ b, ts[k]? = some b := ⟨_, List.getElem?_eq_getElem (by omega)⟩
        obtain ⟨ox, hox, _⟩ := J.laid.at_ x (List.getElem?_eq_some_iff.mp hx).1 _ hx
        have hkid := J.laid.kid hx hox (k := k) (by omega)
        rw [hb] at hkid ⊢
        show some _ = some _
        congr 1
        exact ih b (List.mem_of_getElem? hb) hkid.1 ((h6 k a hk).same (h9 ox o hox h4 k (by omega)).symm)
/-- a blank in what a part is filled to is a top's own -/
theorem Val.blank {x : Nat} {u : Tm} (h : Val P F L x u) : ∀ {i : Int}, i ∈ u.flat → ∃ r : Nat, L[r]? = some r ∧ P[r]? = some (.var i) := by
  induction h with
  | @var x r j h1 h2 h3 =>
    intro i hi
    rw [Tm.flat_var] at hi
    have := List.mem_singleton.mp hi
    subst this
    exact ⟨r, h2, h3⟩
  | @app x r o f ts us h1 h2 h3 h4 h5 h6 ih =>
    intro i hi
    rw [Tm.flat_app] at hi
    obtain ⟨a, ha, hi⟩ : ∃ a ∈ us, i ∈ a.flat := by
      clear h5 h6 ih
      induction us with
      | nil => rw [Tm.flats_nil] at hi; cases hi
      | cons b us ihh =>
        rw [Tm.flats_cons] at hi
        rcases List.mem_append.mp hi with hi | hi
        · exact ⟨b, List.mem_cons_self .., hi⟩
        · obtain ⟨a, ha, hia⟩ := ihh hi
          exact ⟨a, List.mem_cons_of_mem _ ha, hia⟩
    obtain ⟨k, hk⟩ := List.getElem?_of_mem ha
    exact ih k a hk hi
/-! ### parts of tops -/
def Kid (P : List Tm) (F L : List Nat) (r q : Nat) : Prop := ∃ f ts o k, P[r]? = some (.app f ts) ∧ F[r]? = some o ∧ k < ts.length ∧ SameTop L (o + k) q ∧ L[q]? = some q
inductive Below (P : List Tm) (F L : List Nat) : Nat → Nat → Prop
  | kid {r q : Nat} : Kid P F L r q → Below P F L r q
  | step {r q p : Nat} : Below P F L r q → Kid P F L q p → Below P F L r p
theorem Kid.size (J : Joined s t P F [] L) {θ : Fl} (hθ : s.fill θ = t.fill θ) {r q : Nat} (h : Kid P F L r q) {a b : Tm} (ha : P[r]? = some a) (hb : P[q]? = some b) : (b.fill θ).size < (a.fill θ).size := by
  obtain ⟨f, ts, o, k, h1, h2, h3, h4, h5⟩ := h
  rw [h1] at ha
  cases ha
  obtain ⟨c, hc⟩ : ∃ b, ts[k]? = some b := ⟨_, List.getElem?_eq_getElem (by omega)⟩
  have hkid := J.laid.kid h1 h2 h3
  rw [hc] at hkid
  rw [← J.tops θ hθ _ _ _ _ h4 hkid.1 hb, Tm.fill_app, Tm.size_app]
  have := Tm.size_mem (List.mem_map.mpr ⟨c, List.mem_of_getElem? hc, rfl⟩ : c.fill θ ∈ ts.map (Tm.fill θ))
  omega
theorem Kid.lt (J : Joined s t P F [] L) {r q : Nat} (h : Kid P F L r q) : r < P.length ∧ q < P.length := by
  obtain ⟨f, ts, o, k, h1, h2, h3, h4, h5⟩ := h
  refine ⟨(List.getElem?_eq_some_iff.mp h1).1, ?_⟩
  have := (List.getElem?_eq_some_iff.mp h5).1
  rw [J.root.1] at this
  exact this
theorem Below.lt (J : Joined s t P F [] L) {r q : Nat} (h : Below P F L r q) : r < P.length ∧ q < P.length := by
  induction h with
  | kid h => exact h.lt J
  | step _ h ih => exact ⟨ih.1, (h.lt J).2⟩
theorem Below.size (J : Joined s t P F [] L) {θ : Fl} (hθ : s.fill θ = t.fill θ) {r q : Nat} (h : Below P F L r q) : ∀ {a b : Tm}, P[r]? = some a → P[q]? = some b → (b.fill θ).size < (a.fill θ).size := by
  induction h with
  | kid h => intro a b ha hb; exact h.size J hθ ha hb
  | @step q p _ h ih =>
    intro a b ha hb
    obtain ⟨c, hc⟩ : ∃ c, P[q]? = some c := ⟨_, List.getElem?_eq_getElem (h.lt J).1⟩
    have h1 := ih ha hc
    have h2 := h.size J hθ hc hb
    omega
theorem Below.not (J : Joined s t P F [] L) {r : Nat} (h : Below P F L r r) (θ : Fl) : s.fill θ ≠ t.fill θ := fun hθ => by
  obtain ⟨c, hc⟩ : ∃ c, P[r]? = some c := ⟨_, List.getElem?_eq_getElem (h.lt J).1⟩
  have := h.size J hθ hc hc
  omega
/-! ### what is built -/
def builtD (B : Fl) : List (Key × D) := B.map fun p => (Sum.inl p.1, D.tup [p.2.d, .int (p.2.size : Nat)])
theorem val_builtD (B : Fl) (i : Int) : valD (builtD B) (Sum.inl i) = (getF B i).map fun u => D.tup [u.d, .int (u.size : Nat)] := by
  unfold valD builtD getF
  rw [List.find?_map, Option.map_map, Option.map_map]
  have : ((fun kv : Key × D => decide (kv.1 = Sum.inl i)) ∘ fun p : Int × Tm => ((Sum.inl p.1 : Key), D.tup [p.2.d, .int (p.2.size : Nat)])) = fun p => decide (p.1 = i) := by
    funext p
    simp
  rw [this]
  rfl
theorem put_builtD (B : Fl) (i : Int) (t : Tm) : putD (builtD B) (Sum.inl i) (.tup [t.d, .int (t.size : Nat)]) = builtD (putF B i t) := by
  unfold putD putF builtD
  have e : (B.map fun p => ((Sum.inl p.1 : Key), D.tup [p.2.d, .int (p.2.size : Nat)])).any (fun kv => decide (kv.1 = Sum.inl i)) = B.any (fun p => decide (p.1 = i)) := by
    rw [List.any_map]
    congr 1
    funext p
    simp
  rw [e]
  split
  · rw [List.map_map, List.map_map]
    refine List.map_congr_left fun p _ => ?_
    show (if (Sum.inl p.1 : Key) = Sum.inl i then ((Sum.inl p.1 : Key), D.tup [t.d, .int (t.size : Nat)]) else (Sum.inl p.1, D.tup [p.2.d, .int (p.2.size : Nat)])) = _
    by_cases h : p.1 = i
    · simp [h]
    · simp [h]
  · rw [List.map_append]; rfl
structure Bt (P : List Tm) (F L : List Nat) (B : Fl) : Prop where
  val : ∀ i u, getF B i = some u → ∃ r : Nat, i = (r : Int) ∧ L[r]? = some r ∧ Val P F L r u
  kid : ∀ (r q : Nat), (getF B r).isSome → Kid P F L r q → (getF B q).isSome
  nd : keysNd B
theorem Bt.len (J : Joined s t P F [] L) {B : Fl} (h : Bt P F L B) : B.length ≤ P.length := by
  have hnd : (B.map (·.1)).Nodup := h.nd
  have := sub_len (l := B.map (·.1)) (l' := (List.range P.length).map fun (i : Nat) => (i : Int)) hnd fun x hx => by
    obtain ⟨u, hu⟩ := getF_keys.mp hx
    obtain ⟨r, rfl, h1, _⟩ := h.val _ _ hu
    have := (List.getElem?_eq_some_iff.mp h1).1
    rw [J.root.1] at this
    exact List.mem_map.mpr ⟨r, List.mem_range.mpr this, rfl⟩
  rw [List.length_map, List.length_map, List.length_range] at this
  exact this
/-- what holds while parts are built: B built, Z begun, W waiting -/
structure BI (P : List Tm) (F L : List Nat) (r0 : Nat) (B : Fl) (Z : List Int) (W : List Nat) : Prop where
  bt : Bt P F L B
  tops : ∀ x ∈ W, L[x]? = some x
  znd : Z.Nodup
  zlt : ∀ z ∈ Z, ∃ r : Nat, z = (r : Int) ∧ r < P.length
  stk : ∀ r : Nat, (r : Int) ∈ Z → getF B r = none → ∃ A C, W = A ++ r :: C ∧ (∀ x ∈ C, Below P F L r x) ∧ ∀ q : Nat, Kid P F L r q → (getF B q).isSome ∨ q ∈ C
  root : (getF B r0).isSome ∨ ∃ W', W = r0 :: W'
theorem BI.start {r0 : Nat} (h : L[r0]? = some r0) : BI P F L r0 [] [] [r0] where
  bt := ⟨(fun i u h => by cases h), (fun r q h _ => by cases h), (by unfold keysNd; exact List.nodup_nil)⟩
  tops x hx := by rw [List.mem_singleton.mp hx]; exact h
  znd := List.nodup_nil
  zlt z hz := by cases hz
  stk r hr _ := by cases hr
  root := .inr ⟨[], rfl⟩
theorem BI.zlen {r0 : Nat} {B : Fl} {Z : List Int} {W : List Nat} (h : BI P F L r0 B Z W) : Z.length ≤ P.length := by
  have := sub_len (l := Z) (l' := (List.range P.length).map fun (i : Nat) => (i : Int)) h.znd fun x hx => by
    obtain ⟨r, rfl, h1⟩ := h.zlt x hx
    exact List.mem_map.mpr ⟨r, List.mem_range.mpr h1, rfl⟩
  rw [List.length_map, List.length_range] at this
  exact this
theorem some_put {B : Fl} {x : Int} {u : Tm} {q : Int} (h : (getF B q).isSome) : (getF (putF B x u) q).isSome := by
  rw [getF_putF]
  split
  · rfl
  · exact h
theorem BI.pop {r0 : Nat} {B : Fl} {Z : List Int} {W : List Nat} {x : Nat} {u : Tm} (h : BI P F L r0 B Z (W ++ [x])) (hu : Val P F L x u) (hk : ∀ q : Nat, Kid P F L x q → (getF B q).isSome) : BI P F L r0 (putF B x u) Z W where
  bt := by
    refine ⟨fun i v hv => ?_, fun r q hr hq => ?_, putF_nd h.bt.nd⟩
    · rw [getF_putF] at hv
      split at hv
      · rename_i e
        cases hv
        exact ⟨x, e.symm, h.tops x (by simp), hu⟩
      · exact h.bt.val i v hv
    · by_cases e : r = x
      · subst e; exact some_put (hk q hq)
      · rw [getF_putF, if_neg (by omega)] at hr
        exact some_put (h.bt.kid r q hr hq)
  tops y hy := h.tops y (List.mem_append_left _ hy)
  znd := h.znd
  zlt := h.zlt
  stk r hr hn := by
    rw [getF_putF] at hn
    split at hn
    · cases hn
    · rename_i e
      obtain ⟨A, C, h1, h2, h3⟩ := h.stk r hr hn
      rcases List.eq_nil_or_concat C with rfl | ⟨C0, y, rfl⟩
      · have := List.append_inj' h1 rfl
        have := this.2
        injection this with this
        exact absurd (by rw [this]) e
      · rw [List.concat_eq_append] at *
        have e1 : W ++ [x] = (A ++ r :: C0) ++ [y] := by rw [h1]; simp
        obtain ⟨e2, e3⟩ := List.append_inj' e1 rfl
        injection e3 with e3
        subst e3
        refine ⟨A, C0, e2, fun z hz => h2 z (List.mem_append_left _ hz), fun q hq => ?_⟩
        rcases h3 q hq with h4 | h4
        · exact .inl (some_put h4)
        · rcases List.mem_append.mp h4 with h4 | h4
          · exact .inr h4
          · rw [List.mem_singleton.mp h4]
            left
            rw [getF_putF, if_pos rfl]
            rfl
  root := by
    rcases h.root with h1 | ⟨W', h1⟩
    · exact .inl (some_put h1)
    · cases W with
      | nil =>
        injection h1 with h1 _
        subst h1
        left
        rw [getF_putF, if_pos rfl]
        rfl
      | cons y W =>
        injection h1 with h1 h2
        subst h1
        exact .inr ⟨W, rfl⟩
theorem BI.begin {r0 : Nat} {B : Fl} {Z : List Int} {W lack : List Nat} {x : Nat} (J : Joined s t P F [] L) (h : BI P F L r0 B Z (W ++ [x])) (hz : (x : Int) ∉ Z) (hl : ∀ q ∈ lack, Kid P F L x q) (hk : ∀ q : Nat, Kid P F L x q → (getF B q).isSome ∨ q ∈ lack) : BI P F L r0 B (addNew Z x) (W ++ [x] ++ lack) where
  bt := h.bt
  tops y hy := by
    rcases List.mem_append.mp hy with hy | hy
    · exact h.tops y hy
    · obtain ⟨_, _, _, _, _, _, _, _, e⟩ := hl y hy
      exact e
  znd := by
    unfold addNew
    rw [if_neg hz]
    rw [List.nodup_append]
    refine ⟨h.znd, by simp, fun a ha b hb e => ?_⟩
    rw [List.mem_singleton.mp hb] at e
    rw [e] at ha
    exact hz ha
  zlt z hz' := by
    unfold addNew at hz'
    rw [if_neg hz] at hz'
    rcases List.mem_append.mp hz' with h1 | h1
    · exact h.zlt z h1
    · have h2 := (List.getElem?_eq_some_iff.mp (h.tops x (by simp))).1
      rw [J.root.1] at h2
      exact ⟨x, List.mem_singleton.mp h1, h2⟩
  stk r hr hn := by
    unfold addNew at hr
    rw [if_neg hz] at hr
    by_cases e : r = x
    · subst e
      exact ⟨W, lack, by simp, fun y hy => .kid (hl y hy), hk⟩
    · have hr' : (r : Int) ∈ Z := by
        rcases List.mem_append.mp hr with h1 | h1
        · exact h1
        · have := List.mem_singleton.mp h1; omega
      obtain ⟨A, C, h1, h2, h3⟩ := h.stk r hr' hn
      have hx : x ∈ C := by
        rcases List.eq_nil_or_concat C with rfl | ⟨C0, y, rfl⟩
        · have := (List.append_inj' h1 rfl).2
          injection this with this
          exact absurd this.symm e
        · rw [List.concat_eq_append] at *
          have e1 : W ++ [x] = (A ++ r :: C0) ++ [y] := by rw [h1]; simp
          obtain ⟨_, e3⟩ := List.append_inj' e1 rfl
          injection e3 with e3
          subst e3
          simp
      refine ⟨A, C ++ lack, by rw [h1]; simp, fun y hy => ?_, fun q hq => ?_⟩
      · rcases List.mem_append.mp hy with hy | hy
        · exact h2 y hy
        · exact (h2 x hx).step (hl y hy)
      · rcases h3 q hq with h4 | h4
        · exact .inl h4
        · exact .inr (List.mem_append_left _ h4)
  root := by
    rcases h.root with h1 | ⟨W', h1⟩
    · exact .inl h1
    · exact .inr ⟨W' ++ lack, by rw [h1]; rfl⟩
theorem BI.circle {r0 : Nat} {B : Fl} {Z : List Int} {W : List Nat} {x q : Nat} (J : Joined s t P F [] L) (h : BI P F L r0 B Z (W ++ [x])) (hz : (x : Int) ∈ Z) (hk : Kid P F L x q) (hq : getF B q = none) (θ : Fl) : s.fill θ ≠ t.fill θ := by
  have hn : getF B x = none := by
    cases e : getF B x with
    | none => rfl
    | some v =>
      have := h.bt.kid x q (by rw [e]; rfl) hk
      rw [hq] at this
      cases this
  obtain ⟨A, C, h1, h2, h3⟩ := h.stk x hz hn
  refine Below.not J (r := x) (h2 x ?_) θ
  rcases List.eq_nil_or_concat C with rfl | ⟨C0, y, rfl⟩
  · rcases h3 q hk with h4 | h4
    · rw [hq] at h4; cases h4
    · cases h4
  · rw [List.concat_eq_append] at *
    have e1 : W ++ [x] = (A ++ x :: C0) ++ [y] := by rw [h1]; simp
    obtain ⟨_, e3⟩ := List.append_inj' e1 rfl
    injection e3 with e3
    subst e3
    simp
/-- the tops of a part's parts -/
structure Kids (P : List Tm) (F L : List Nat) (x : Nat) (Q : List Nat) : Prop where
  sound : ∀ q ∈ Q, Kid P F L x q
  all : ∀ q, Kid P F L x q → q ∈ Q
theorem Kids.val {x o : Nat} {f : Str} {ts us : List Tm} {Q : List Nat} {B : Fl} (hb : Bt P F L B) (hx : L[x]? = some x) (hp : P[x]? = some (.app f ts)) (ho : F[x]? = some o) (hQ : Q.length = ts.length) (hq : ∀ k q, Q[k]? = some q → SameTop L (o + k) q)
    (hu : us.length = Q.length) (hg : ∀ (k q : Nat) (u : Tm), Q[k]? = some q → us[k]? = some u → getF B q = some u) : Val P F L x (.app f us) :=
  .app (.self (d := 0) ⟨rfl, hx⟩) hx hp ho (by omega) fun k u hk => by
    have hkl := (List.getElem?_eq_some_iff.mp hk).1
    obtain ⟨q, hq'⟩ : ∃ q, Q[k]? = some q := ⟨_, List.getElem?_eq_getElem (by omega)⟩
    obtain ⟨r, e, h1, h2⟩ := hb.val q u (hg k q u hq' hk)
    have : r = q := by omega
    subst this
    exact h2.same (hq k r hq').symm
theorem Kids.of {x o : Nat} {f : Str} {ts : List Tm} {Q : List Nat} (hp : P[x]? = some (.app f ts)) (ho : F[x]? = some o) (hQ : Q.length = ts.length) (hq : ∀ k q, Q[k]? = some q → SameTop L (o + k) q ∧ L[q]? = some q) : Kids P F L x Q where
  sound q h := by
    obtain ⟨k, hk⟩ := List.getElem?_of_mem h
    have hkl := (List.getElem?_eq_some_iff.mp hk).1
    exact ⟨f, ts, o, k, hp, ho, by omega, (hq k q hk).1, (hq k q hk).2⟩
  all q h := by
    obtain ⟨f', ts', o', k, h1, h2, h3, h4, h5⟩ := h
    rw [hp] at h1
    rw [ho] at h2
    cases h1
    cases h2
    obtain ⟨q', hq'⟩ : ∃ q, Q[k]? = some q := ⟨_, List.getElem?_eq_getElem (by omega)⟩
    have := (hq k q' hq').1.tops h4 (hq k q' hq').2 h5
    subst this
    exact List.mem_of_getElem? hq'
theorem Kids.var {x : Nat} {i : Int} (hp : P[x]? = some (.var i)) : Kids P F L x [] where
  sound q h := by cases h
  all q h := by
    obtain ⟨f', ts', o', k, h1, _⟩ := h
    rw [hp] at h1
    cases h1
/-- all that is built: every part's top -/
theorem Bt.all (J : Joined s t P F [] L) {B : Fl} {r0 : Nat} (h : Bt P F L B) (h0 : SameTop L 0 r0) (ht : L[r0]? = some r0) (hs : (getF B r0).isSome) : ∀ x, x < P.length → ∀ r, SameTop L x r → L[r]? = some r → ∃ u, getF B r = some u ∧ Val P F L x u := by
  intro x
  induction x using Nat.strongRecOn with
  | _ x ih =>
    intro hx r hr hrt
    have key : (getF B r).isSome := by
      by_cases hx2 : x < 2
      · have h01 : SameTop L 0 1 := J.zero.done
        have : SameTop L x r0 := by
          have : x = 0 ∨ x = 1 := by omega
          rcases this with rfl | rfl
          · exact h0
          · exact h01.symm.trans h0
        rw [hr.tops this hrt ht]
        exact hs
      · obtain ⟨j, o, p, k, h1, h2, h3, h4, rfl⟩ := J.laid.par x (by omega) hx
        cases p with
        | var i => exact absurd h4 (Nat.not_lt_zero _)
        | app f ts =>
          have h4 : k < ts.length := h4
          obtain ⟨hjk, hjo, _⟩ := J.laid.kid h3 h2 h4
          obtain ⟨d, rj, hrj⟩ := J.root.2 j h1
          obtain ⟨u, hu, _⟩ := ih j (by omega) h1 rj (.self hrj) hrj.top
          obtain ⟨us, h5, h6, h7⟩ := J.top_app (.self hrj) hrj.top h3
          have hrjl : rj < P.length := (List.getElem?_eq_some_iff.mp h5).1
          obtain ⟨o', ho', _⟩ := J.laid.at_ rj hrjl _ h5
          refine h.kid rj r (by rw [hu]; rfl) ⟨f, us, o', k, h5, ho', by omega, (h7 o o' h2 ho' k h4).symm.trans hr, hrt⟩
    cases e : getF B r with
    | none => rw [e] at key; cases key
    | some u =>
      obtain ⟨r', e', _, hv⟩ := h.val r u e
      have : r' = r := by omega
      subst this
      exact ⟨u, rfl, hv.same hr.symm⟩
end
end DL
namespace DL
open PySem L2
/-! ### a most open filling that makes two terms the same -/
structure Mgu (s t : Tm) (θ : Fl) : Prop where
  nd : keysNd θ
  same : s.fill θ = t.fill θ
  open_ : ∀ θ' : Fl, s.fill θ' = t.fill θ' → ∀ i, ((Tm.var i).fill θ).fill θ' = (Tm.var i).fill θ'
  keys : ∀ i u, getF θ i = some u → i ∈ s.flat ++ t.flat
  vals : ∀ i u, getF θ i = some u → ∀ j ∈ u.flat, getF θ j = none ∧ j ∈ s.flat ++ t.flat
  ne : ∀ i u, getF θ i = some u → u ≠ .var i
  over : ∀ ss vs, Over ss vs s → Over ss vs t → ∀ i u, getF θ i = some u → Over ss vs u
  nm : ∀ p : Str → Prop, s.Nm p → t.Nm p → ∀ i u, getF θ i = some u → u.Nm p
  len : θ.length ≤ s.size + t.size
section
variable {s t : Tm} {P : List Tm} {F L : List Nat}
theorem Laid.all (h : Laid s t P F P.length) {R : Tm → Prop} (hs : R s) (ht : R t) (hp : ∀ f ts, R (.app f ts) → ∀ u ∈ ts, R u) : ∀ p ∈ P, R p := by
  have key : ∀ (x : Nat) (p : Tm), P[x]? = some p → R p := by
    intro x
    induction x using Nat.strongRecOn with
    | _ x ih =>
      intro p hx
      have hxl := (List.getElem?_eq_some_iff.mp hx).1
      by_cases h0 : x = 0
      · subst h0; rw [h.zero] at hx; cases hx; exact hs
      · by_cases h1 : x = 1
        · subst h1; rw [h.one] at hx; cases hx; exact ht
        · obtain ⟨j, o, q, k, h3, h4, h5, h6, rfl⟩ := h.par x (by omega) hxl
          cases q with
          | var i => exact absurd h6 (Nat.not_lt_zero _)
          | app f ts =>
            have h6 : k < ts.length := h6
            have hk := h.kid h5 h4 h6
            rw [hx] at hk
            exact hp f ts (ih j (by omega) _ h5) p (List.mem_of_getElem? hk.1.symm)
  intro p hp'
  obtain ⟨x, hx⟩ := List.getElem?_of_mem hp'
  exact key x p hx
theorem flats_mem {ts : List Tm} {u : Tm} {i : Int} (h : u ∈ ts) (hi : i ∈ u.flat) : i ∈ Tm.flats ts := by
  induction ts with
  | nil => cases h
  | cons a ts ih =>
    rw [Tm.flats_cons]
    rcases List.mem_cons.mp h with rfl | h
    · exact List.mem_append_left _ hi
    · exact List.mem_append_right _ (ih h)
theorem Laid.blank (h : Laid s t P F P.length) {x : Nat} {i : Int} (hx : P[x]? = some (.var i)) : i ∈ s.flat ++ t.flat := by
  have := h.all (R := fun p => ∀ j ∈ p.flat, j ∈ s.flat ++ t.flat) (fun j hj => List.mem_append_left _ hj) (fun j hj => List.mem_append_right _ hj) (fun f ts hf u hu j hj => hf j (by rw [Tm.flat_app]; exact flats_mem hu hj)) _ (List.mem_of_getElem? hx)
  exact this i (by rw [Tm.flat_var]; exact List.mem_singleton.mpr rfl)
theorem Val.over (J : Joined s t P F [] L) {ss : List Sg} {vs : List Int} (hs : Over ss vs s) (ht : Over ss vs t) {x : Nat} {u : Tm} (h : Val P F L x u) : Over ss vs u := by
  have hall := J.laid.all (R := Over ss vs) hs ht fun f ts hf => hf.arg
  induction h with
  | var h1 h2 h3 => exact hall _ (List.mem_of_getElem? h3)
  | @app x r o f ts us h1 h2 h3 h4 h5 h6 ih =>
    have := hall _ (List.mem_of_getElem? h3)
    cases this with
    | @app g ts hg ha hts =>
      exact .app hg (h5.trans ha) fun u hu => by
        obtain ⟨k, hk⟩ := List.getElem?_of_mem hu
        exact ih k u hk
theorem Val.nm (J : Joined s t P F [] L) {p : Str → Prop} (hs : s.Nm p) (ht : t.Nm p) {x : Nat} {u : Tm} (h : Val P F L x u) : u.Nm p := by
  have hall := J.laid.all (R := fun u => u.Nm p) hs ht fun f ts hf u hu => by
    cases hf with
    | app _ h => exact h u hu
  induction h with
  | var h1 h2 h3 => exact .var
  | @app x r o f ts us h1 h2 h3 h4 h5 h6 ih =>
    have := hall _ (List.mem_of_getElem? h3)
    exact .app this.hd fun u hu => by
      obtain ⟨k, hk⟩ := List.getElem?_of_mem hu
      exact ih k u hk
/-- the filling when the first n parts are looked at -/
structure MF (P : List Tm) (F L : List Nat) (n : Nat) (fs : Fl) : Prop where
  sound : ∀ i u, getF fs i = some u → u ≠ .var i ∧ ∃ x : Nat, x < n ∧ P[x]? = some (.var i) ∧ Val P F L x u
  all : ∀ (x : Nat) i u, x < n → P[x]? = some (.var i) → Val P F L x u → u = .var i ∨ getF fs i = some u
  nd : keysNd fs
  len : fs.length ≤ n
theorem MF.start : MF P F L 0 [] := ⟨(fun i u h => by cases h), (fun x i u h => absurd h (Nat.not_lt_zero _)), (by unfold keysNd; exact List.nodup_nil), Nat.le_refl _⟩
theorem MF.app {n : Nat} {fs : Fl} {f : Str} {ts : List Tm} (h : MF P F L n fs) (hn : P[n]? = some (.app f ts)) : MF P F L (n + 1) fs :=
  ⟨(fun i u e => by obtain ⟨h1, x, h2, h3⟩ := h.sound i u e; exact ⟨h1, x, by omega, h3⟩), (fun x i u hx hp hv => by
    by_cases e : x = n
    · subst e; rw [hn] at hp; cases hp
    · exact h.all x i u (by omega) hp hv), h.nd, by have := h.len; omega⟩
theorem MF.skip {n : Nat} {fs : Fl} {i : Int} (h : MF P F L n fs) (hn : P[n]? = some (.var i)) (hv : Val P F L n (.var i)) : MF P F L (n + 1) fs :=
  ⟨(fun i u e => by obtain ⟨h1, x, h2, h3⟩ := h.sound i u e; exact ⟨h1, x, by omega, h3⟩), (fun x j u hx hp hv' => by
    by_cases e : x = n
    · subst e; rw [hn] at hp; cases hp; exact .inl (hv'.uniq hv)
    · exact h.all x j u (by omega) hp hv'), h.nd, by have := h.len; omega⟩
theorem MF.put (J : Joined s t P F [] L) {n : Nat} {fs : Fl} {i : Int} {u : Tm} (h : MF P F L n fs) (hn : P[n]? = some (.var i)) (hv : Val P F L n u) (hne : u ≠ .var i) : MF P F L (n + 1) (putF fs i u) := by
  refine ⟨fun j v e => ?_, fun x j v hx hp hv' => ?_, putF_nd h.nd, by have := h.len; have := putF_len fs i u; omega⟩
  · rw [getF_putF] at e
    split at e
    · rename_i hij
      subst hij
      cases e
      exact ⟨hne, n, by omega, hn, hv⟩
    · obtain ⟨h1, x, h2, h3⟩ := h.sound j v e
      exact ⟨h1, x, by omega, h3⟩
  · rw [getF_putF]
    by_cases hij : i = j
    · subst hij
      rw [if_pos rfl]
      right
      rw [(hv'.same (J.like' hp hn)).uniq hv]
    · rw [if_neg hij]
      by_cases e : x = n
      · subst e; rw [hn] at hp; cases hp; exact absurd rfl hij
      · exact h.all x j v (by omega) hp hv'
theorem getF_len {fs : Fl} {q : Int × Tm} (h : q ∈ fs) : ∃ u, getF fs q.1 = some u := getF_keys.mp (List.mem_map.mpr ⟨q, h, rfl⟩)
theorem MF.mgu (J : Joined s t P F [] L) {fs : Fl} (h : MF P F L P.length fs) (hall : ∀ x, x < P.length → ∃ u, Val P F L x u) : Mgu s t fs := by
  have lt : ∀ {x : Nat} {p : Tm}, P[x]? = some p → x < P.length := fun hp => (List.getElem?_eq_some_iff.mp hp).1
  have hv : ∀ (x : Nat) (v : Int) (u : Tm), P[x]? = some (.var v) → Val P F L x u → (Tm.var v).fill fs = u := fun x v u hp hu => by
    rw [Tm.fill_var]
    rcases h.all x v u (lt hp) hp hu with e | e
    · subst e
      cases g : getF fs v with
      | none => rfl
      | some w =>
        obtain ⟨h1, y, _, h3, h4⟩ := h.sound v w g
        exact absurd ((h4.same (J.like' h3 hp)).uniq hu) h1
    · rw [e]; rfl
  have hfill : ∀ {p : Tm} {x : Nat} {u : Tm}, P[x]? = some p → Val P F L x u → p.fill fs = u := fun h1 h2 => Val.fills J hv h1 h2
  have h2 := J.laid.two
  refine ⟨h.nd, ?_, fun θ' hθ i => ?_, fun i u e => ?_, fun i u e j hj => ?_, fun i u e => (h.sound i u e).1, fun ss vs hs ht i u e => ?_, fun p hs ht i u e => ?_, ?_⟩
  · obtain ⟨u, hu⟩ := hall 0 (by omega)
    rw [hfill J.laid.zero hu, hfill J.laid.one (hu.same J.zero.done)]
  · rw [Tm.fill_var fs]
    cases g : getF fs i with
    | none => rfl
    | some w =>
      obtain ⟨h1, y, _, h3, h4⟩ := h.sound i w g
      exact h4.open_ J hθ h3
  · obtain ⟨_, x, _, h3, _⟩ := h.sound i u e
    exact J.laid.blank h3
  · obtain ⟨_, x, _, h3, h4⟩ := h.sound i u e
    obtain ⟨r, h5, h6⟩ := h4.blank hj
    refine ⟨?_, J.laid.blank h6⟩
    cases g : getF fs j with
    | none => rfl
    | some w =>
      obtain ⟨h7, y, _, h8, h9⟩ := h.sound j w g
      exact absurd ((h9.same (J.like' h8 h6)).uniq (.var (.self (d := 0) ⟨rfl, h5⟩) h5 h6)) h7
  · obtain ⟨_, x, _, h3, h4⟩ := h.sound i u e
    exact h4.over J hs ht
  · obtain ⟨_, x, _, h3, h4⟩ := h.sound i u e
    exact h4.nm J hs ht
  · have := h.len
    have := J.laid.len_le
    omega
theorem MF.ex (J : Joined s t P F [] L) (hall : ∀ x, x < P.length → ∃ u, Val P F L x u) : ∀ n, n ≤ P.length → ∃ fs, MF P F L n fs := by
  intro n
  induction n with
  | zero => exact fun _ => ⟨[], .start⟩
  | succ n ih =>
    intro hn
    obtain ⟨fs, hf⟩ := ih (by omega)
    obtain ⟨u, hu⟩ := hall n (by omega)
    have hp : P[n]? = some P[n] := List.getElem?_eq_getElem (by omega)
    generalize P[n] = p at hp
    cases p with
    | app f ts => exact ⟨fs, hf.app hp⟩
    | var i =>
      by_cases e : u = .var i
      · subst e; exact ⟨fs, hf.skip hp hu⟩
      · exact ⟨_, hf.put J hp hu e⟩
theorem MF.exm (J : Joined s t P F [] L) (hall : ∀ x, x < P.length → ∃ u, Val P F L x u) : ∃ θ, Mgu s t θ := by
  obtain ⟨fs, hf⟩ := MF.ex J hall P.length (Nat.le_refl _)
  exact ⟨fs, hf.mgu J hall⟩
end
/-! sizes of what is filled -/
theorem fill_ge (θ : Fl) (u : Tm) : u.size ≤ (u.fill θ).size := by
  refine Tm.ind (P := fun u => u.size ≤ (u.fill θ).size) (fun i => ?_) (fun f ts ih => ?_) u
  · rw [Tm.size_var]; exact Tm.size_pos _
  · rw [Tm.fill_app, Tm.size_app, Tm.size_app]
    have : Tm.sizes ts ≤ Tm.sizes (ts.map (Tm.fill θ)) := by
      clear f
      induction ts with
      | nil => exact Nat.le_refl _
      | cons a ts ihh =>
        rw [List.map_cons, Tm.sizes_cons, Tm.sizes_cons]
        have h1 := ih a (List.mem_cons_self ..)
        have h2 := ihh fun t ht => ih t (List.mem_cons_of_mem _ ht)
        omega
    omega
/-- a blank within a term is filled to less -/
theorem fill_in {θ : Fl} {i : Int} {u : Tm} (h : i ∈ u.flat) (hne : u ≠ .var i) : ((Tm.var i).fill θ).size < (u.fill θ).size := by
  have key : ∀ u : Tm, i ∈ u.flat → ((Tm.var i).fill θ).size ≤ (u.fill θ).size := by
    intro u
    refine Tm.ind (P := fun u => i ∈ u.flat → ((Tm.var i).fill θ).size ≤ (u.fill θ).size) (fun j hj => ?_) (fun f ts ih hj => ?_) u
    · rw [Tm.flat_var] at hj
      rw [List.mem_singleton.mp hj]
      exact Nat.le_refl _
    · rw [Tm.flat_app] at hj
      obtain ⟨a, ha, hi⟩ : ∃ a ∈ ts, i ∈ a.flat := by
        clear ih
        induction ts with
        | nil => rw [Tm.flats_nil] at hj; cases hj
        | cons b us ihh =>
          rw [Tm.flats_cons] at hj
          rcases List.mem_append.mp hj with hi | hi
          · exact ⟨b, List.mem_cons_self .., hi⟩
          · obtain ⟨a, ha, hia⟩ := ihh hi
            exact ⟨a, List.mem_cons_of_mem _ ha, hia⟩
      have h1 := ih a ha hi
      have h2 := Tm.size_mem (List.mem_map.mpr ⟨a, ha, rfl⟩ : a.fill θ ∈ ts.map (Tm.fill θ))
      rw [Tm.fill_app, Tm.size_app]
      omega
  cases u with
  | var j =>
    rw [Tm.flat_var] at h
    rw [List.mem_singleton.mp h] at hne
    exact absurd rfl hne
  | app f ts =>
    rw [Tm.flat_app] at h
    obtain ⟨a, ha, hi⟩ : ∃ a ∈ ts, i ∈ a.flat := by
      clear hne
      induction ts with
      | nil => rw [Tm.flats_nil] at h; cases h
      | cons b us ihh =>
        rw [Tm.flats_cons] at h
        rcases List.mem_append.mp h with hi | hi
        · exact ⟨b, List.mem_cons_self .., hi⟩
        · obtain ⟨a, ha, hia⟩ := ihh hi
          exact ⟨a, List.mem_cons_of_mem _ ha, hia⟩
    have h1 := key a hi
    have h2 := Tm.size_mem (List.mem_map.mpr ⟨a, ha, rfl⟩ : a.fill θ ∈ ts.map (Tm.fill θ))
    rw [Tm.fill_app, Tm.size_app]
    omega
theorem fill_nil (u : Tm) : u.fill [] = u := by
  refine Tm.ind (P := fun u => u.fill [] = u) (fun i => ?_) (fun f ts ih => ?_) u
  · rw [Tm.fill_var]; rfl
  · rw [Tm.fill_app]
    congr 1
    rw [List.map_congr_left ih, List.map_id']
/-- where both terms are the same the filling is empty -/
theorem Mgu.refl {s : Tm} {θ : Fl} (h : Mgu s s θ) : θ = [] := by
  cases θ with
  | nil => rfl
  | cons q θ =>
    have h1 : getF (q :: θ) q.1 = some q.2 := by
      unfold getF
      rw [List.find?_cons]
      simp
    have h2 := h.open_ [] rfl q.1
    rw [Tm.fill_var, h1, Option.getD_some, fill_nil, fill_nil] at h2
    exact absurd h2 (h.ne _ _ h1)
end DL
namespace K13
open PySem L2 DL
def top (i : Nat) : Stmt := PySem.Challenge.pw_ruleswood_k13_not_met.main.body.getD i (.Pass ⟨0, 0, 0, 0⟩)
abbrev s__alike_on_top : Stmt := top 4
abbrev s_Joint___init__ : Stmt := inClass (top 5) 0
abbrev s_Joint_top : Stmt := inClass (top 5) 1
abbrev s_Joint_inner : Stmt := inClass (top 5) 2
abbrev s_Joint_like_blanks : Stmt := inClass (top 5) 3
abbrev s_Joint_join_both : Stmt := inClass (top 5) 4
abbrev s__built : Stmt := top 6
abbrev s_met : Stmt := top 7
abbrev s__law_cell : Stmt := top 9
abbrev s__law_dice : Stmt := top 10
abbrev s__law_off : Stmt := top 11
abbrev s__law_names : Stmt := top 12
abbrev s__law_signs : Stmt := top 13
abbrev s__law_free : Stmt := top 14
abbrev s__law_term : Stmt := top 15
abbrev s__law_flat : Stmt := top 16
abbrev s__law_places : Stmt := top 17
abbrev s__law_put : Stmt := top 18
abbrev s__law_two : Stmt := top 19
abbrev s__law_right : Stmt := top 20
abbrev s_law : Stmt := top 21
theorem sc__alike_on_top : FnScope ["one", "other"] ["one", "other"] (defScope s__alike_on_top) := ⟨rfl, rfl, rfl, by decide +kernel, rfl, by decide +kernel, by decide +kernel⟩
theorem sc_Joint___init__ : FnScope ["self", "one", "other", "part"] ["self", "one", "other"] (defScope s_Joint___init__) := ⟨rfl, rfl, rfl, by decide +kernel, rfl, by decide +kernel, by decide +kernel⟩
theorem sc_Joint_top : FnScope ["self", "number"] ["self", "number"] (defScope s_Joint_top) := ⟨rfl, rfl, rfl, by decide +kernel, rfl, by decide +kernel, by decide +kernel⟩
theorem sc_Joint_inner : FnScope ["self", "number", "part", "k"] ["self", "number"] (defScope s_Joint_inner) := ⟨rfl, rfl, rfl, by decide +kernel, rfl, by decide +kernel, by decide +kernel⟩
theorem sc_Joint_like_blanks : FnScope ["self", "pairs", "first_at", "number", "part"] ["self"] (defScope s_Joint_like_blanks) := ⟨rfl, rfl, rfl, by decide +kernel, rfl, by decide +kernel, by decide +kernel⟩
theorem sc_Joint_join_both : FnScope ["self", "waiting", "one", "other", "mine", "its"] ["self"] (defScope s_Joint_join_both) := ⟨rfl, rfl, rfl, by decide +kernel, rfl, by decide +kernel, by decide +kernel⟩
theorem sc__built : FnScope ["joint", "built", "begun", "waiting", "top", "inner", "lacking", "part", "number"] ["joint"] (defScope s__built) := ⟨rfl, rfl, rfl, by decide +kernel, rfl, by decide +kernel, by decide +kernel⟩
theorem sc_met : FnScope ["one", "other", "most", "joint", "built", "filling", "number", "part", "value", "many"] ["one", "other", "most"] (defScope s_met) := ⟨rfl, rfl, rfl, by decide +kernel, rfl, by decide +kernel, by decide +kernel⟩
theorem sc__law_cell : FnScope ["_law_script", "_law_k"] ["_law_script", "_law_k"] (defScope s__law_cell) := ⟨rfl, rfl, rfl, by decide +kernel, rfl, by decide +kernel, by decide +kernel⟩
theorem sc__law_dice : FnScope ["_law_script", "_law_k", "_law_cell_here"] ["_law_script", "_law_k"] (defScope s__law_dice) := ⟨rfl, rfl, rfl, by decide +kernel, rfl, by decide +kernel, by decide +kernel⟩
theorem sc__law_off : FnScope ["_law_d", "_law_most", "_law_found", "_law_more"] ["_law_d", "_law_most"] (defScope s__law_off) := ⟨rfl, rfl, rfl, by decide +kernel, rfl, by decide +kernel, by decide +kernel⟩
theorem sc__law_names : FnScope ["_law_d", "_law_many", "_law_letters", "_law_base", "_law_at", "_law_turn", "_law_tails", "_law_found", "_law_k"] ["_law_d", "_law_many"] (defScope s__law_names) := ⟨rfl, rfl, rfl, by decide +kernel, rfl, by decide +kernel, by decide +kernel⟩
theorem sc__law_signs : FnScope ["_law_d", "_law_many", "_law_turn", "_law_names_here", "_law_most", "_law_k"] ["_law_d"] (defScope s__law_signs) := ⟨rfl, rfl, rfl, by decide +kernel, rfl, by decide +kernel, by decide +kernel⟩
theorem sc__law_free : FnScope ["_law_d", "_law_some"] ["_law_d"] (defScope s__law_free) := ⟨rfl, rfl, rfl, by decide +kernel, rfl, by decide +kernel, by decide +kernel⟩
theorem sc__law_term : FnScope ["_law_d", "_law_signs_here", "_law_deep", "_law_free_here", "_law_some", "_law_sign", "_law_k"] ["_law_d", "_law_signs_here", "_law_deep", "_law_free_here"] (defScope s__law_term) := ⟨rfl, rfl, rfl, by decide +kernel, rfl, by decide +kernel, by decide +kernel⟩
theorem sc__law_flat : FnScope ["_law_term_here", "_law_found", "_law_part"] ["_law_term_here"] (defScope s__law_flat) := ⟨rfl, rfl, rfl, by decide +kernel, rfl, by decide +kernel, by decide +kernel⟩
theorem sc__law_places : FnScope ["_law_term_here", "_law_found", "_law_k", "_law_place"] ["_law_term_here"] (defScope s__law_places) := ⟨rfl, rfl, rfl, by decide +kernel, rfl, by decide +kernel, by decide +kernel⟩
theorem sc__law_put : FnScope ["_law_term_here", "_law_place", "_law_new", "_law_inner"] ["_law_term_here", "_law_place", "_law_new"] (defScope s__law_put) := ⟨rfl, rfl, rfl, by decide +kernel, rfl, by decide +kernel, by decide +kernel⟩
theorem sc__law_two : FnScope ["_law_d", "_law_signs_here", "_law_free_here", "_law_deep", "_law_one", "_law_other", "_law_way", "_law_ways", "_law_sign"] ["_law_d", "_law_signs_here", "_law_free_here"] (defScope s__law_two) := ⟨rfl, rfl, rfl, by decide +kernel, rfl, by decide +kernel, by decide +kernel⟩
theorem sc__law_right : FnScope ["_law_one", "_law_other", "_law_due", "_law_pair", "_law_found"] ["_law_one", "_law_other", "_law_due"] (defScope s__law_right) := ⟨rfl, rfl, rfl, by decide +kernel, rfl, by decide +kernel, by decide +kernel⟩
theorem sc_law : FnScope ["_law_script", "_law_signs_here", "_law_one", "_law_other", "_law_blank", "_law_term_here", "_law_ways"] ["_law_script"] (defScope s_law) := ⟨rfl, rfl, rfl, by decide +kernel, rfl, by decide +kernel, by decide +kernel⟩
structure Top (K : PySem.W.Frag) (mg : Str → Option Value) : Prop where
  d__alike_on_top : ∃ fd, FnP K "_alike_on_top" "_alike_on_top" s__alike_on_top (He.ga K "_alike_on_top") fd
  g__alike_on_top : mg "_alike_on_top" = some (.ref (He.ga K "_alike_on_top"))
  d_Joint___init__ : ∃ fd, FnP K "__init__" "Joint.__init__" s_Joint___init__ (He.ma K (He.ga K "Joint") "__init__") fd
  d_Joint_top : ∃ fd, FnP K "top" "Joint.top" s_Joint_top (He.ma K (He.ga K "Joint") "top") fd
  m_Joint_top : Meth K (He.ga K "Joint") "top" (He.ma K (He.ga K "Joint") "top")
  d_Joint_inner : ∃ fd, FnP K "inner" "Joint.inner" s_Joint_inner (He.ma K (He.ga K "Joint") "inner") fd
  m_Joint_inner : Meth K (He.ga K "Joint") "inner" (He.ma K (He.ga K "Joint") "inner")
  d_Joint_like_blanks : ∃ fd, FnP K "like_blanks" "Joint.like_blanks" s_Joint_like_blanks (He.ma K (He.ga K "Joint") "like_blanks") fd
  m_Joint_like_blanks : Meth K (He.ga K "Joint") "like_blanks" (He.ma K (He.ga K "Joint") "like_blanks")
  d_Joint_join_both : ∃ fd, FnP K "join_both" "Joint.join_both" s_Joint_join_both (He.ma K (He.ga K "Joint") "join_both") fd
  m_Joint_join_both : Meth K (He.ga K "Joint") "join_both" (He.ma K (He.ga K "Joint") "join_both")
  d__built : ∃ fd, FnP K "_built" "_built" s__built (He.ga K "_built") fd
  g__built : mg "_built" = some (.ref (He.ga K "_built"))
  d_met : ∃ fd, FnP K "met" "met" s_met (He.ga K "met") fd
  g_met : mg "met" = some (.ref (He.ga K "met"))
  d__law_cell : ∃ fd, FnP K "_law_cell" "_law_cell" s__law_cell (He.ga K "_law_cell") fd
  g__law_cell : mg "_law_cell" = some (.ref (He.ga K "_law_cell"))
  d__law_dice : ∃ fd, FnP K "_law_dice" "_law_dice" s__law_dice (He.ga K "_law_dice") fd
  g__law_dice : mg "_law_dice" = some (.ref (He.ga K "_law_dice"))
  d__law_off : ∃ fd, FnP K "_law_off" "_law_off" s__law_off (He.ga K "_law_off") fd
  g__law_off : mg "_law_off" = some (.ref (He.ga K "_law_off"))
  d__law_names : ∃ fd, FnP K "_law_names" "_law_names" s__law_names (He.ga K "_law_names") fd
  g__law_names : mg "_law_names" = some (.ref (He.ga K "_law_names"))
  d__law_signs : ∃ fd, FnP K "_law_signs" "_law_signs" s__law_signs (He.ga K "_law_signs") fd
  g__law_signs : mg "_law_signs" = some (.ref (He.ga K "_law_signs"))
  d__law_free : ∃ fd, FnP K "_law_free" "_law_free" s__law_free (He.ga K "_law_free") fd
  g__law_free : mg "_law_free" = some (.ref (He.ga K "_law_free"))
  d__law_term : ∃ fd, FnP K "_law_term" "_law_term" s__law_term (He.ga K "_law_term") fd
  g__law_term : mg "_law_term" = some (.ref (He.ga K "_law_term"))
  d__law_flat : ∃ fd, FnP K "_law_flat" "_law_flat" s__law_flat (He.ga K "_law_flat") fd
  g__law_flat : mg "_law_flat" = some (.ref (He.ga K "_law_flat"))
  d__law_places : ∃ fd, FnP K "_law_places" "_law_places" s__law_places (He.ga K "_law_places") fd
  g__law_places : mg "_law_places" = some (.ref (He.ga K "_law_places"))
  d__law_put : ∃ fd, FnP K "_law_put" "_law_put" s__law_put (He.ga K "_law_put") fd
  g__law_put : mg "_law_put" = some (.ref (He.ga K "_law_put"))
  d__law_two : ∃ fd, FnP K "_law_two" "_law_two" s__law_two (He.ga K "_law_two") fd
  g__law_two : mg "_law_two" = some (.ref (He.ga K "_law_two"))
  d__law_right : ∃ fd, FnP K "_law_right" "_law_right" s__law_right (He.ga K "_law_right") fd
  g__law_right : mg "_law_right" = some (.ref (He.ga K "_law_right"))
  d_law : ∃ fd, FnP K "law" "law" s_law (He.ga K "law") fd
  g_law : mg "law" = some (.ref (He.ga K "law"))
  g_Joint : mg "Joint" = some (.ref (He.ga K "Joint"))
  c_Joint : Cls K (He.ga K "Joint")
  k_Joint : Mk K (He.ga K "Joint") (He.ma K (He.ga K "Joint") "__init__")
  g_WoodError : mg "WoodError" = some (.ref (He.ga K "WoodError"))
  g_TooHeavy : mg "TooHeavy" = some (.ref (He.ga K "TooHeavy"))
  e_TooHeavy : ExcCls K (He.ga K "TooHeavy")
  a_Joint_parts : NoAttr K (He.ga K "Joint") "parts"
  a_Joint__firsts : NoAttr K (He.ga K "Joint") "_firsts"
  a_Joint__links : NoAttr K (He.ga K "Joint") "_links"
  n_abs : mg "abs" = none
  n_dict : mg "dict" = none
  n_enumerate : mg "enumerate" = none
  n_int : mg "int" = none
  n_isinstance : mg "isinstance" = none
  n_len : mg "len" = none
  n_list : mg "list" = none
  n_max : mg "max" = none
  n_range : mg "range" = none
  n_sum : mg "sum" = none
  n_tuple : mg "tuple" = none
  n_zip : mg "zip" = none
section
variable {P : Program} {w : World} {K : PySem.W.Frag} {mg : Str → Option Value} {base : Heap}
def sp_top2 : DSp := fun ds M Q _ => ∃ (f g : Str) (ts us : List Tm), ds = [(Tm.app f ts).d, (Tm.app g us).d] ∧ NameOk f ∧ NameOk g ∧ ts.length ≤ 10000 ∧ us.length ≤ 10000 ∧ Q (.bl (decide (f = g) && decide (ts.length = us.length))) M
theorem fn_top2 (T : Top K mg) : DFn P w K mg base CX0 1 "_alike_on_top" ["one", "other"] sp_top2 := by
  obtain ⟨fd, F⟩ := T.d__alike_on_top
  have sc := sc__alike_on_top
  refine DFn.ofD (k := 0) F T.g__alike_on_top (FunD.bindsN F fun _ _ _ _ _ _ us hl => match us, hl with | [_, _], _ => rfl) sc ?len ⟨_, fun cdv A outer s H E m0 hr => (
      (dss_one (ds_ret (de_and (de_cmp (dop_eq hr) (de_ix hr (de_var 0) de_int) (de_ix hr (de_var 1) de_int)) (de_one (de_cmp (dop_eq hr) (de_cb T.n_len dc_len b_len (da_cons (de_var 0) da_nil)) (de_cb T.n_len dc_len b_len (da_cons (de_var 1) da_nil)))))))), ?_⟩
  case len =>
    rintro ds M Q E ⟨f, g, ts, us, rfl, _⟩
    rfl
  rintro ds M Qd Ed ⟨f, g, ts, us, rfl, hf, hg, h1, h2, q⟩ hM
  rw [Tm.d_app, Tm.d_app]
  try simp only [dSeq, dAsg, dgName, dgTup, dgCons, dgNil, dgSub, dRet, dRetN, dIfS, dDrop, dNext, dBreak, dCont, dAug, dVar, dC, dBin, dTest, dChain, dTru, dNotT, dAndT, dOrT, dAndV, dOrV, dNotV, dIf, dNil, dCons, dTup, dLst, dNewDict, dNeg, dCB, dBM, dBM0, dCall, dYes,   dSl, dNoPart, dPart, qSl, dBack, qBack, dFor, dISeq, dIRng1, dIRng2, dIZip, dLc, dDc,   qAdd, qInt, qInt0, qSub, qMul, qDiv, qMod, qPow, qLt, qLe, qGt, qGe, qIs, qIsNot, qIx, qLen, qAbs, qMax, qMin, qSum, qAll, qAny, qInt_, qStr_, qList_, qTuple_, qDict_, qIsi, qSet, iAdd, iSub, iMul, iDiv, iMod,   mAppend, mExtend, mPop, truD, tyN, isTy, seqD, lstD, keyD, isNonD,   kit_ii, kit_bi, kit_si, kit_ti, kit_li, kit_di, kit_ni, kit_ib, kit_bb, kit_sb, kit_tb, kit_lb, kit_nb, kit_is, kit_ss, kit_ts, kit_ls, kit_ns, kit_it, kit_st, kit_tt, kit_lt, kit_nt, kit_il, kit_tl, kit_ll, kit_dl, kit_nl, kit_dd, kit_nd, kit_ld,   startD, wipeD, List.map_cons, List.map_nil, List.length_cons, List.length_nil, Nat.reduceAdd, Nat.reduceSub, List.replicate_succ, List.replicate_zero, List.cons_append, List.nil_append, List.getElem?_cons_zero, List.getElem?_cons_succ, List.set_cons_zero, List.set_cons_succ,   List.length_append, List.length_set, set_get, Option.map_some, List.set_set, atI_0, atI_1, atI_2, atI_3, atI_4, atI_5, atI_6, List.append_assoc, Nat.add_assoc, getK, getK0, getL, setK, setK0, setL, List.length_map, mJoin, mIndex, mCount, mGet, strsOf, intsOf, blsOf, Option.bind_some, intsD_map, strsD_map, blsD_map, Option.isSome_some, szl, Nat.reduceLeDiff, qEq_ii, qNe_ii, Bool.not_true, Bool.not_false, decT, decF, dDelT, dDisp, dPairs, dFld, dFldS, dMeth, dMake, dIEnum, dAugK, dNever, dListRev, dListRg1, dPar, dListZip, dForD, mSetd, dRaise, dCallX, dMethX, dMakeX, dTryOnly, dTryAs, wipeE, qIsE, clsVal, clsVals, PySem.W.kitAny, eq_self, true_and]
  refine qEq_ss hf hg fun b hb => ?_
  cases b with
  | true =>
    have e := hb.mp rfl
    rw [decide_eq_true e, Bool.true_and] at q
    have : decide (((ts.length + 1 : Nat) : Int) = ((us.length + 1 : Nat) : Int)) = decide (ts.length = us.length) := by
      by_cases h : ts.length = us.length
      · rw [decide_eq_true h, decide_eq_true (by omega)]
      · rw [decide_eq_false h, decide_eq_false (by omega)]
    rw [← this] at q
    try simp only [dSeq, dAsg, dgName, dgTup, dgCons, dgNil, dgSub, dRet, dRetN, dIfS, dDrop, dNext, dBreak, dCont, dAug, dVar, dC, dBin, dTest, dChain, dTru, dNotT, dAndT, dOrT, dAndV, dOrV, dNotV, dIf, dNil, dCons, dTup, dLst, dNewDict, dNeg, dCB, dBM, dBM0, dCall, dYes,   dSl, dNoPart, dPart, qSl, dBack, qBack, dFor, dISeq, dIRng1, dIRng2, dIZip, dLc, dDc,   qAdd, qInt, qInt0, qSub, qMul, qDiv, qMod, qPow, qLt, qLe, qGt, qGe, qIs, qIsNot, qIx, qLen, qAbs, qMax, qMin, qSum, qAll, qAny, qInt_, qStr_, qList_, qTuple_, qDict_, qIsi, qSet, iAdd, iSub, iMul, iDiv, iMod,   mAppend, mExtend, mPop, truD, tyN, isTy, seqD, lstD, keyD, isNonD,   kit_ii, kit_bi, kit_si, kit_ti, kit_li, kit_di, kit_ni, kit_ib, kit_bb, kit_sb, kit_tb, kit_lb, kit_nb, kit_is, kit_ss, kit_ts, kit_ls, kit_ns, kit_it, kit_st, kit_tt, kit_lt, kit_nt, kit_il, kit_tl, kit_ll, kit_dl, kit_nl, kit_dd, kit_nd, kit_ld,   startD, wipeD, List.map_cons, List.map_nil, List.length_cons, List.length_nil, Nat.reduceAdd, Nat.reduceSub, List.replicate_succ, List.replicate_zero, List.cons_append, List.nil_append, List.getElem?_cons_zero, List.getElem?_cons_succ, List.set_cons_zero, List.set_cons_succ,   List.length_append, List.length_set, set_get, Option.map_some, List.set_set, atI_0, atI_1, atI_2, atI_3, atI_4, atI_5, atI_6, List.append_assoc, Nat.add_assoc, getK, getK0, getL, setK, setK0, setL, List.length_map, mJoin, mIndex, mCount, mGet, strsOf, intsOf, blsOf, Option.bind_some, intsD_map, strsD_map, blsD_map, Option.isSome_some, szl, Nat.reduceLeDiff, qEq_ii, qNe_ii, Bool.not_true, Bool.not_false, decT, decF, dDelT, dDisp, dPairs, dFld, dFldS, dMeth, dMake, dIEnum, dAugK, dNever, dListRev, dListRg1, dPar, dListZip, dForD, mSetd, dRaise, dCallX, dMethX, dMakeX, dTryOnly, dTryAs, wipeE, qIsE, clsVal, clsVals, PySem.W.kitAny, eq_self, true_and]
    exact .same q
  | false =>
    have e : ¬ f = g := fun e => by have := hb.mpr e; cases this
    rw [decide_eq_false e, Bool.false_and] at q
    try simp only [dSeq, dAsg, dgName, dgTup, dgCons, dgNil, dgSub, dRet, dRetN, dIfS, dDrop, dNext, dBreak, dCont, dAug, dVar, dC, dBin, dTest, dChain, dTru, dNotT, dAndT, dOrT, dAndV, dOrV, dNotV, dIf, dNil, dCons, dTup, dLst, dNewDict, dNeg, dCB, dBM, dBM0, dCall, dYes,   dSl, dNoPart, dPart, qSl, dBack, qBack, dFor, dISeq, dIRng1, dIRng2, dIZip, dLc, dDc,   qAdd, qInt, qInt0, qSub, qMul, qDiv, qMod, qPow, qLt, qLe, qGt, qGe, qIs, qIsNot, qIx, qLen, qAbs, qMax, qMin, qSum, qAll, qAny, qInt_, qStr_, qList_, qTuple_, qDict_, qIsi, qSet, iAdd, iSub, iMul, iDiv, iMod,   mAppend, mExtend, mPop, truD, tyN, isTy, seqD, lstD, keyD, isNonD,   kit_ii, kit_bi, kit_si, kit_ti, kit_li, kit_di, kit_ni, kit_ib, kit_bb, kit_sb, kit_tb, kit_lb, kit_nb, kit_is, kit_ss, kit_ts, kit_ls, kit_ns, kit_it, kit_st, kit_tt, kit_lt, kit_nt, kit_il, kit_tl, kit_ll, kit_dl, kit_nl, kit_dd, kit_nd, kit_ld,   startD, wipeD, List.map_cons, List.map_nil, List.length_cons, List.length_nil, Nat.reduceAdd, Nat.reduceSub, List.replicate_succ, List.replicate_zero, List.cons_append, List.nil_append, List.getElem?_cons_zero, List.getElem?_cons_succ, List.set_cons_zero, List.set_cons_succ,   List.length_append, List.length_set, set_get, Option.map_some, List.set_set, atI_0, atI_1, atI_2, atI_3, atI_4, atI_5, atI_6, List.append_assoc, Nat.add_assoc, getK, getK0, getL, setK, setK0, setL, List.length_map, mJoin, mIndex, mCount, mGet, strsOf, intsOf, blsOf, Option.bind_some, intsD_map, strsD_map, blsD_map, Option.isSome_some, szl, Nat.reduceLeDiff, qEq_ii, qNe_ii, Bool.not_true, Bool.not_false, decT, decF, dDelT, dDisp, dPairs, dFld, dFldS, dMeth, dMake, dIEnum, dAugK, dNever, dListRev, dListRg1, dPar, dListZip, dForD, mSetd, dRaise, dCallX, dMethX, dMakeX, dTryOnly, dTryAs, wipeE, qIsE, clsVal, clsVals, PySem.W.kitAny, eq_self, true_and]
    exact .same q
theorem putJ_1 {x : D} : putN ("parts" : Str) x [] = [(("parts" : Str), x)] := rfl
theorem putJ_2 {x y : D} : putN ("_firsts" : Str) y [(("parts" : Str), x)] = [(("parts" : Str), x), (("_firsts" : Str), y)] := by
  have h : ("parts" : Str) ≠ "_firsts" := by decide +kernel
  unfold putN
  rw [if_neg h]
  rfl
theorem putJ_3 {x y v : D} : putN ("_links" : Str) v [(("parts" : Str), x), (("_firsts" : Str), y)] = [(("parts" : Str), x), (("_firsts" : Str), y), (("_links" : Str), v)] := by
  have h : ("parts" : Str) ≠ "_links" := by decide +kernel
  have h2 : ("_firsts" : Str) ≠ "_links" := by decide +kernel
  unfold putN
  rw [if_neg h]
  unfold putN
  rw [if_neg h2]
  rfl
def jntF (a b c : D) : List (Str × D) := [(("parts" : Str), a), (("_firsts" : Str), b), (("_links" : Str), c)]
theorem jntF_1 {a b c : D} : (jntF a b c).lookup ("parts" : Str) = some a := by
  unfold jntF
  rw [List.lookup_cons, show (("parts" : Str) == "parts") = true by decide +kernel]
theorem jntF_2 {a b c : D} : (jntF a b c).lookup ("_firsts" : Str) = some b := by
  unfold jntF
  rw [List.lookup_cons, show (("_firsts" : Str) == "parts") = false by decide +kernel]
  show List.lookup ("_firsts" : Str) [(("_firsts" : Str), b), (("_links" : Str), c)] = _
  rw [List.lookup_cons, show (("_firsts" : Str) == "_firsts") = true by decide +kernel]
theorem jntF_3 {a b c : D} : (jntF a b c).lookup ("_links" : Str) = some c := by
  unfold jntF
  rw [List.lookup_cons, show (("_links" : Str) == "parts") = false by decide +kernel]
  show List.lookup ("_links" : Str) [(("_firsts" : Str), b), (("_links" : Str), c)] = _
  rw [List.lookup_cons, show (("_links" : Str) == "_firsts") = false by decide +kernel]
  show List.lookup ("_links" : Str) [(("_links" : Str), c)] = _
  rw [List.lookup_cons, show (("_links" : Str) == "_links") = true by decide +kernel]
theorem jntF_e {a b c : D} : ([(("parts" : Str), a), (("_firsts" : Str), b), (("_links" : Str), c)] : List (Str × D)) = jntF a b c := rfl
theorem jntF_len {a b c : D} : (jntF a b c).length = 3 := rfl
theorem jntF_no {a b c : D} {m : Str} (h1 : (m == ("parts" : Str)) = false) (h2 : (m == ("_firsts" : Str)) = false) (h3 : (m == ("_links" : Str)) = false) : (jntF a b c).lookup m = none := by
  unfold jntF
  rw [List.lookup_cons, h1]
  show List.lookup m [(("_firsts" : Str), b), (("_links" : Str), c)] = _
  rw [List.lookup_cons, h2]
  show List.lookup m [(("_links" : Str), c)] = _
  rw [List.lookup_cons, h3]
  rfl
def jF2 (a b : D) : List (Str × D) := [(("parts" : Str), a), (("_firsts" : Str), b)]
theorem jF2_e {a b : D} : ([(("parts" : Str), a), (("_firsts" : Str), b)] : List (Str × D)) = jF2 a b := rfl
theorem jF2_1 {a b : D} : (jF2 a b).lookup ("parts" : Str) = some a := by
  unfold jF2
  rw [List.lookup_cons, show (("parts" : Str) == "parts") = true by decide +kernel]
theorem jF2_2 {a b : D} : (jF2 a b).lookup ("_firsts" : Str) = some b := by
  unfold jF2
  rw [List.lookup_cons, show (("_firsts" : Str) == "parts") = false by decide +kernel]
  show List.lookup ("_firsts" : Str) [(("_firsts" : Str), b)] = _
  rw [List.lookup_cons, show (("_firsts" : Str) == "_firsts") = true by decide +kernel]
theorem jF2_3 {a b x : D} : putN ("_links" : Str) x (jF2 a b) = jntF a b x := putJ_3
def natD (l : List Nat) : List D := l.map fun i => D.int (i : Nat)
def sp_jinit : DSp := fun ds M Q _ => ∃ (n : Nat) (s t : Tm), ds = [.loc n, s.d, t.d] ∧ M[n]? = some (.ins (He.ga K "Joint") []) ∧ s.size + t.size ≤ 10000 ∧
  ∀ P F, Laid s t P F P.length → Q .non (M.set n (.ins (He.ga K "Joint") (jntF (.loc M.length) (.loc (M.length + 1)) (.loc (M.length + 2)))) ++ [.lst (P.map Tm.d), .lst (natD F), .lst (natD (List.range P.length))])
theorem fn_jinit (T : Top K mg) : DInit P w K mg base CX0 3 (He.ga K "Joint") "Joint" ["self", "one", "other"] (sp_jinit (K := K)) := by
  obtain ⟨fd, F⟩ := T.d_Joint___init__
  have sc := sc_Joint___init__
  refine DInit.ofD (k := 2) F T.k_Joint T.g_Joint (FunD.bindsN F fun _ _ _ _ _ _ us hl => match us, hl with | [_, _, _], _ => rfl) sc ?len ⟨_, fun cdv A outer s H E m0 hr => (
      (dss_cons (ds_fld T.c_Joint T.a_Joint_parts (de_var 0) (de_lst (da_cons (de_var 1) (da_cons (de_var 2) da_nil))))
      (dss_cons (ds_fld T.c_Joint T.a_Joint__firsts (de_var 0) (de_lst da_nil))
      (dss_cons (ds_while PassesOwn.never (dt_cmp dop_lt (de_cb T.n_len dc_len b_len (da_cons (de_fld T.c_Joint T.a_Joint__firsts (de_var 0)) da_nil)) (de_cb T.n_len dc_len b_len (da_cons (de_fld T.c_Joint T.a_Joint_parts (de_var 0)) da_nil))) (dss_cons (ds_set 3 sc.nd (de_ix hr (de_fld T.c_Joint T.a_Joint_parts (de_var 0)) (de_cb T.n_len dc_len b_len (da_cons (de_fld T.c_Joint T.a_Joint__firsts (de_var 0)) da_nil))))
      (dss_cons (ds_expr (de_bm PySem.F.plainAttrs_list PySem.F.slot_list_append PySem.F.type_list_append dm_append (de_fld T.c_Joint T.a_Joint__firsts (de_var 0)) (da_cons (de_cb T.n_len dc_len b_len (da_cons (de_fld T.c_Joint T.a_Joint_parts (de_var 0)) da_nil)) da_nil)))
      (dss_one (ds_if (dt_not (dt_e (de_cb T.n_isinstance dc_isi b_isinstance (da_cons (de_var 3) (da_cons (de_ty T.n_int b_int) da_nil))))) (dss_one (ds_expr (de_bm PySem.F.plainAttrs_list PySem.F.slot_list_extend PySem.F.type_list_extend dm_extend (de_fld T.c_Joint T.a_Joint_parts (de_var 0)) (da_cons (de_slice (de_var 3) (do_some de_int) do_none) da_nil)))) dss_nil)))))
      (dss_one (ds_fld T.c_Joint T.a_Joint__links (de_var 0) (de_listRg1 rfl T.n_list T.n_range (de_cb T.n_len dc_len b_len (da_cons (de_fld T.c_Joint T.a_Joint_parts (de_var 0)) da_nil))))))))), ?_⟩
  case len =>
    rintro ds M Q E ⟨n, s, t, rfl, _⟩
    rfl
  rintro ds M Qd Ed ⟨n, s, t, rfl, hn, hsz, q⟩ hM
  have hnl := (List.getElem?_eq_some_iff.mp hn).1
  have hn1 : ∀ o : MO, (M.set n o)[n]? = some o := fun o => by rw [List.getElem?_set_self hnl]
  try simp only [dSeq, dAsg, dgName, dgTup, dgCons, dgNil, dgSub, dRet, dRetN, dIfS, dDrop, dNext, dBreak, dCont, dAug, dVar, dC, dBin, dTest, dChain, dTru, dNotT, dAndT, dOrT, dAndV, dOrV, dNotV, dIf, dNil, dCons, dTup, dLst, dNewDict, dNeg, dCB, dBM, dBM0, dCall, dYes,   dSl, dNoPart, dPart, qSl, dBack, qBack, dFor, dISeq, dIRng1, dIRng2, dIZip, dLc, dDc,   qAdd, qInt, qInt0, qSub, qMul, qDiv, qMod, qPow, qLt, qLe, qGt, qGe, qIs, qIsNot, qIx, qLen, qAbs, qMax, qMin, qSum, qAll, qAny, qInt_, qStr_, qList_, qTuple_, qDict_, qIsi, qSet, iAdd, iSub, iMul, iDiv, iMod,   mAppend, mExtend, mPop, truD, tyN, isTy, seqD, lstD, keyD, isNonD,   kit_ii, kit_bi, kit_si, kit_ti, kit_li, kit_di, kit_ni, kit_ib, kit_bb, kit_sb, kit_tb, kit_lb, kit_nb, kit_is, kit_ss, kit_ts, kit_ls, kit_ns, kit_it, kit_st, kit_tt, kit_lt, kit_nt, kit_il, kit_tl, kit_ll, kit_dl, kit_nl, kit_dd, kit_nd, kit_ld,   startD, wipeD, List.map_cons, List.map_nil, List.length_cons, List.length_nil, Nat.reduceAdd, Nat.reduceSub, List.replicate_succ, List.replicate_zero, List.cons_append, List.nil_append, List.getElem?_cons_zero, List.getElem?_cons_succ, List.set_cons_zero, List.set_cons_succ,   List.length_append, List.length_set, set_get, Option.map_some, List.set_set, atI_0, atI_1, atI_2, atI_3, atI_4, atI_5, atI_6, List.append_assoc, Nat.add_assoc, getK, getK0, getL, setK, setK0, setL, List.length_map, mJoin, mIndex, mCount, mGet, strsOf, intsOf, blsOf, Option.bind_some, intsD_map, strsD_map, blsD_map, Option.isSome_some, szl, Nat.reduceLeDiff, qEq_ii, qNe_ii, Bool.not_true, Bool.not_false, decT, decF, dDelT, dDisp, dPairs, dFld, dFldS, dMeth, dMake, dIEnum, dAugK, dNever, dListRev, dListRg1, dPar, dListZip, dForD, mSetd, dRaise, dCallX, dMethX, dMakeX, dTryOnly, dTryAs, wipeE, qIsE, clsVal, clsVals, PySem.W.kitAny, eq_self, true_and, hnl, hn, hn1, putJ_1, putJ_2]
  rw [jF2_e]
  refine ⟨by decide, by decide, ?_⟩
  have e1 : (jF2 (.loc M.length) (.loc (M.length + 1))).lookup (Str.ofString "parts") = some (.loc M.length) := jF2_1
  have e2 : (jF2 (.loc M.length) (.loc (M.length + 1))).lookup (Str.ofString "_firsts") = some (.loc (M.length + 1)) := jF2_2
  refine while_ind (fun k r M' => ∃ (P : List Tm) (F : List Nat) (i : Nat) (v : Option D), Laid s t P F i ∧ k + i = s.size + t.size ∧ r = [some (D.loc n), some s.d, some t.d, v] ∧ M' = M.set n (.ins (He.ga K "Joint") (jF2 (.loc M.length) (.loc (M.length + 1)))) ++ [.lst (P.map Tm.d), .lst (natD F)])
    (s.size + t.size) ⟨[s, t], [], 0, none, .start s t, rfl, rfl, rfl⟩ ?_
  rintro k r M' ⟨P, F, i, v, hl, hk, rfl, rfl⟩
  have hpl := hl.len_le
  have hF := hl.len
  have hFl : (natD F).length = i := by unfold natD; rw [List.length_map, hF]
  by_cases hi : i < P.length
  · have d1 : decide ((i : Int) < (P.length : Int)) = true := decide_eq_true (by omega)
    obtain ⟨u, hu⟩ : ∃ u, P[i]? = some u := ⟨_, List.getElem?_eq_getElem hi⟩
    have f1 : atI (List.map Tm.d P) (i : Int) = some u.d := atI_nat (by rw [List.getElem?_map, hu]; rfl)
    have hst := hl.step hu
    have hnat : natD (F ++ [P.length]) = natD F ++ [D.int (P.length : Nat)] := by unfold natD; rw [List.map_append]; rfl
    have hsl := hst.len_le
    cases u with
    | var j =>
      rw [Tm.d_var] at f1
      have hst' : Laid s t P (F ++ [P.length]) (i + 1) := by
        have e : (Tm.var j).parts = [] := rfl
        rw [e, List.append_nil] at hst
        exact hst
      try simp only [dSeq, dAsg, dgName, dgTup, dgCons, dgNil, dgSub, dRet, dRetN, dIfS, dDrop, dNext, dBreak, dCont, dAug, dVar, dC, dBin, dTest, dChain, dTru, dNotT, dAndT, dOrT, dAndV, dOrV, dNotV, dIf, dNil, dCons, dTup, dLst, dNewDict, dNeg, dCB, dBM, dBM0, dCall, dYes,   dSl, dNoPart, dPart, qSl, dBack, qBack, dFor, dISeq, dIRng1, dIRng2, dIZip, dLc, dDc,   qAdd, qInt, qInt0, qSub, qMul, qDiv, qMod, qPow, qLt, qLe, qGt, qGe, qIs, qIsNot, qIx, qLen, qAbs, qMax, qMin, qSum, qAll, qAny, qInt_, qStr_, qList_, qTuple_, qDict_, qIsi, qSet, iAdd, iSub, iMul, iDiv, iMod,   mAppend, mExtend, mPop, truD, tyN, isTy, seqD, lstD, keyD, isNonD,   kit_ii, kit_bi, kit_si, kit_ti, kit_li, kit_di, kit_ni, kit_ib, kit_bb, kit_sb, kit_tb, kit_lb, kit_nb, kit_is, kit_ss, kit_ts, kit_ls, kit_ns, kit_it, kit_st, kit_tt, kit_lt, kit_nt, kit_il, kit_tl, kit_ll, kit_dl, kit_nl, kit_dd, kit_nd, kit_ld,   startD, wipeD, List.map_cons, List.map_nil, List.length_cons, List.length_nil, Nat.reduceAdd, Nat.reduceSub, List.replicate_succ, List.replicate_zero, List.cons_append, List.nil_append, List.getElem?_cons_zero, List.getElem?_cons_succ, List.set_cons_zero, List.set_cons_succ,   List.length_append, List.length_set, set_get, Option.map_some, List.set_set, atI_0, atI_1, atI_2, atI_3, atI_4, atI_5, atI_6, List.append_assoc, Nat.add_assoc, getK, getK0, getL, setK, setK0, setL, List.length_map, mJoin, mIndex, mCount, mGet, strsOf, intsOf, blsOf, Option.bind_some, intsD_map, strsD_map, blsD_map, Option.isSome_some, szl, Nat.reduceLeDiff, qEq_ii, qNe_ii, Bool.not_true, Bool.not_false, decT, decF, dDelT, dDisp, dPairs, dFld, dFldS, dMeth, dMake, dIEnum, dAugK, dNever, dListRev, dListRg1, dPar, dListZip, dForD, mSetd, dRaise, dCallX, dMethX, dMakeX, dTryOnly, dTryAs, wipeE, qIsE, clsVal, clsVals, PySem.W.kitAny, eq_self, true_and, hnl, hn1, e1, e2, hFl, List.length_map, d1, f1]
      exact ⟨by omega, k - 1, by omega, P, F ++ [P.length], i + 1, _, hst', by omega, rfl, by rw [hnat]⟩
    | app f ts =>
      rw [Tm.d_app] at f1
      have e : (Tm.app f ts).parts = ts := rfl
      rw [e] at hst hsl
      rw [List.length_append] at hsl
      try simp only [dSeq, dAsg, dgName, dgTup, dgCons, dgNil, dgSub, dRet, dRetN, dIfS, dDrop, dNext, dBreak, dCont, dAug, dVar, dC, dBin, dTest, dChain, dTru, dNotT, dAndT, dOrT, dAndV, dOrV, dNotV, dIf, dNil, dCons, dTup, dLst, dNewDict, dNeg, dCB, dBM, dBM0, dCall, dYes,   dSl, dNoPart, dPart, qSl, dBack, qBack, dFor, dISeq, dIRng1, dIRng2, dIZip, dLc, dDc,   qAdd, qInt, qInt0, qSub, qMul, qDiv, qMod, qPow, qLt, qLe, qGt, qGe, qIs, qIsNot, qIx, qLen, qAbs, qMax, qMin, qSum, qAll, qAny, qInt_, qStr_, qList_, qTuple_, qDict_, qIsi, qSet, iAdd, iSub, iMul, iDiv, iMod,   mAppend, mExtend, mPop, truD, tyN, isTy, seqD, lstD, keyD, isNonD,   kit_ii, kit_bi, kit_si, kit_ti, kit_li, kit_di, kit_ni, kit_ib, kit_bb, kit_sb, kit_tb, kit_lb, kit_nb, kit_is, kit_ss, kit_ts, kit_ls, kit_ns, kit_it, kit_st, kit_tt, kit_lt, kit_nt, kit_il, kit_tl, kit_ll, kit_dl, kit_nl, kit_dd, kit_nd, kit_ld,   startD, wipeD, List.map_cons, List.map_nil, List.length_cons, List.length_nil, Nat.reduceAdd, Nat.reduceSub, List.replicate_succ, List.replicate_zero, List.cons_append, List.nil_append, List.getElem?_cons_zero, List.getElem?_cons_succ, List.set_cons_zero, List.set_cons_succ,   List.length_append, List.length_set, set_get, Option.map_some, List.set_set, atI_0, atI_1, atI_2, atI_3, atI_4, atI_5, atI_6, List.append_assoc, Nat.add_assoc, getK, getK0, getL, setK, setK0, setL, List.length_map, mJoin, mIndex, mCount, mGet, strsOf, intsOf, blsOf, Option.bind_some, intsD_map, strsD_map, blsD_map, Option.isSome_some, szl, Nat.reduceLeDiff, qEq_ii, qNe_ii, Bool.not_true, Bool.not_false, decT, decF, dDelT, dDisp, dPairs, dFld, dFldS, dMeth, dMake, dIEnum, dAugK, dNever, dListRev, dListRg1, dPar, dListZip, dForD, mSetd, dRaise, dCallX, dMethX, dMakeX, dTryOnly, dTryAs, wipeE, qIsE, clsVal, clsVals, PySem.W.kitAny, eq_self, true_and, hnl, hn1, e1, e2, hFl, List.length_map, d1, f1]
      rw [cut_1]
      refine ⟨by omega, by rw [List.length_map]; omega, k - 1, by omega, P ++ ts, F ++ [P.length], i + 1, _, hst, by omega, rfl, by rw [hnat, List.map_append]⟩
  · have d1 : decide ((i : Int) < (P.length : Int)) = false := decide_eq_false (by omega)
    have hile := hl.le
    have hie : i = P.length := by omega
    subst hie
    try simp only [dSeq, dAsg, dgName, dgTup, dgCons, dgNil, dgSub, dRet, dRetN, dIfS, dDrop, dNext, dBreak, dCont, dAug, dVar, dC, dBin, dTest, dChain, dTru, dNotT, dAndT, dOrT, dAndV, dOrV, dNotV, dIf, dNil, dCons, dTup, dLst, dNewDict, dNeg, dCB, dBM, dBM0, dCall, dYes,   dSl, dNoPart, dPart, qSl, dBack, qBack, dFor, dISeq, dIRng1, dIRng2, dIZip, dLc, dDc,   qAdd, qInt, qInt0, qSub, qMul, qDiv, qMod, qPow, qLt, qLe, qGt, qGe, qIs, qIsNot, qIx, qLen, qAbs, qMax, qMin, qSum, qAll, qAny, qInt_, qStr_, qList_, qTuple_, qDict_, qIsi, qSet, iAdd, iSub, iMul, iDiv, iMod,   mAppend, mExtend, mPop, truD, tyN, isTy, seqD, lstD, keyD, isNonD,   kit_ii, kit_bi, kit_si, kit_ti, kit_li, kit_di, kit_ni, kit_ib, kit_bb, kit_sb, kit_tb, kit_lb, kit_nb, kit_is, kit_ss, kit_ts, kit_ls, kit_ns, kit_it, kit_st, kit_tt, kit_lt, kit_nt, kit_il, kit_tl, kit_ll, kit_dl, kit_nl, kit_dd, kit_nd, kit_ld,   startD, wipeD, List.map_cons, List.map_nil, List.length_cons, List.length_nil, Nat.reduceAdd, Nat.reduceSub, List.replicate_succ, List.replicate_zero, List.cons_append, List.nil_append, List.getElem?_cons_zero, List.getElem?_cons_succ, List.set_cons_zero, List.set_cons_succ,   List.length_append, List.length_set, set_get, Option.map_some, List.set_set, atI_0, atI_1, atI_2, atI_3, atI_4, atI_5, atI_6, List.append_assoc, Nat.add_assoc, getK, getK0, getL, setK, setK0, setL, List.length_map, mJoin, mIndex, mCount, mGet, strsOf, intsOf, blsOf, Option.bind_some, intsD_map, strsD_map, blsD_map, Option.isSome_some, szl, Nat.reduceLeDiff, qEq_ii, qNe_ii, Bool.not_true, Bool.not_false, decT, decF, dDelT, dDisp, dPairs, dFld, dFldS, dMeth, dMake, dIEnum, dAugK, dNever, dListRev, dListRg1, dPar, dListZip, dForD, mSetd, dRaise, dCallX, dMethX, dMakeX, dTryOnly, dTryAs, wipeE, qIsE, clsVal, clsVals, PySem.W.kitAny, eq_self, true_and, hnl, hn1, e1, e2, hFl, List.length_map, d1]
    rw [jF2_3]
    have hr : rngD 0 ((P.length : Int)).toNat = natD (List.range P.length) := by
      unfold rngD natD
      rw [Int.toNat_natCast]
      refine List.map_congr_left fun j _ => ?_
      rw [Int.zero_add]
    rw [hr]
    exact ⟨RgOk.of_le (by omega) (by omega) (by omega) (by omega), (by show (2 : Nat) < 1000; omega), .same (q P F hl)⟩
/-- a joint at a place: its three lists' cells -/
def JntAt (K : PySem.W.Frag) (M : Mem) (n a b c : Nat) (P : List Tm) (F L : List Nat) : Prop := M[n]? = some (.ins (He.ga K "Joint") (jntF (.loc a) (.loc b) (.loc c))) ∧ M[a]? = some (.lst (P.map Tm.d)) ∧ M[b]? = some (.lst (natD F)) ∧ M[c]? = some (.lst (natD L))
def sp_inner : DSp := fun ds M Q _ => ∃ (n a b c i o : Nat) (P : List Tm) (F L : List Nat) (u : Tm), ds = [.loc n, .int i] ∧ JntAt K M n a b c P F L ∧ P[i]? = some u ∧ F[i]? = some o ∧ u.size ≤ 10000 ∧ o ≤ 20000 ∧
  Q (.loc M.length) (M ++ [.lst (natD ((List.range u.parts.length).map fun k => o + k))])
theorem fn_inner (T : Top K mg) : DMeth P w K mg base CX0 1 (He.ga K "Joint") "inner" ["self", "number"] (sp_inner (K := K)) := by
  obtain ⟨fd, F⟩ := T.d_Joint_inner
  have sc := sc_Joint_inner
  refine DMeth.ofD (k := 0) F T.m_Joint_inner T.c_Joint (FunD.bindsN F fun _ _ _ _ _ _ us hl => match us, hl with | [_, _], _ => rfl) sc ?len ⟨_, fun cdv A outer s H E m0 hr => (
      (dss_cons (ds_set 2 sc.nd (de_ix hr (de_fld T.c_Joint T.a_Joint_parts (de_var 0)) (de_var 1)))
      (dss_cons (ds_if (dt_e (de_cb T.n_isinstance dc_isi b_isinstance (da_cons (de_var 2) (da_cons (de_ty T.n_int b_int) da_nil)))) (dss_one (ds_ret (de_lst da_nil))) dss_nil)
      (dss_one (ds_ret (de_lc 3 (own := [("k", 3)]) rfl sc.nd (di_rng1 T.n_range (da_cons (de_bin dop_sub (de_cb T.n_len dc_len b_len (da_cons (de_var 2) da_nil)) de_int) da_nil)) (show blkC ["self", "number", "part", "k"] (defScope s_Joint_inner) _ [("k", 3)] = true by decide +kernel) (by decide) (fun _ _ _ _ _ => pg_name (i := 3) sc.nd rfl (by first | exact Or.inl rfl | exact Or.inr rfl)) (fun _ _ _ _ _ => dts_nil) (fun _ _ _ _ _ => (de_bin dop_add (de_ix hr (de_fld T.c_Joint T.a_Joint__firsts (de_var 0)) (de_var 1)) (de_var 3))))))))), ?_⟩
  case len =>
    rintro ds M Q E ⟨n, a, b, c, i, o, P, F, L, u, rfl, _⟩
    rfl
  rintro ds M Qd Ed ⟨n, a, b, c, i, o, P, F, L, u, rfl, ⟨h1, h2, h3, h4⟩, hu, ho, huz, hoz, q⟩ hM
  have f1 : atI (List.map Tm.d P) (i : Int) = some u.d := atI_nat (by rw [List.getElem?_map, hu]; rfl)
  have f2 : atI (natD F) (i : Int) = some (.int (o : Nat)) := atI_nat (by unfold natD; rw [List.getElem?_map, ho]; rfl)
  cases u with
  | var j =>
    rw [Tm.d_var] at f1
    try simp only [dSeq, dAsg, dgName, dgTup, dgCons, dgNil, dgSub, dRet, dRetN, dIfS, dDrop, dNext, dBreak, dCont, dAug, dVar, dC, dBin, dTest, dChain, dTru, dNotT, dAndT, dOrT, dAndV, dOrV, dNotV, dIf, dNil, dCons, dTup, dLst, dNewDict, dNeg, dCB, dBM, dBM0, dCall, dYes,   dSl, dNoPart, dPart, qSl, dBack, qBack, dFor, dISeq, dIRng1, dIRng2, dIZip, dLc, dDc,   qAdd, qInt, qInt0, qSub, qMul, qDiv, qMod, qPow, qLt, qLe, qGt, qGe, qIs, qIsNot, qIx, qLen, qAbs, qMax, qMin, qSum, qAll, qAny, qInt_, qStr_, qList_, qTuple_, qDict_, qIsi, qSet, iAdd, iSub, iMul, iDiv, iMod,   mAppend, mExtend, mPop, truD, tyN, isTy, seqD, lstD, keyD, isNonD,   kit_ii, kit_bi, kit_si, kit_ti, kit_li, kit_di, kit_ni, kit_ib, kit_bb, kit_sb, kit_tb, kit_lb, kit_nb, kit_is, kit_ss, kit_ts, kit_ls, kit_ns, kit_it, kit_st, kit_tt, kit_lt, kit_nt, kit_il, kit_tl, kit_ll, kit_dl, kit_nl, kit_dd, kit_nd, kit_ld,   startD, wipeD, List.map_cons, List.map_nil, List.length_cons, List.length_nil, Nat.reduceAdd, Nat.reduceSub, List.replicate_succ, List.replicate_zero, List.cons_append, List.nil_append, List.getElem?_cons_zero, List.getElem?_cons_succ, List.set_cons_zero, List.set_cons_succ,   List.length_append, List.length_set, set_get, Option.map_some, List.set_set, atI_0, atI_1, atI_2, atI_3, atI_4, atI_5, atI_6, List.append_assoc, Nat.add_assoc, getK, getK0, getL, setK, setK0, setL, List.length_map, mJoin, mIndex, mCount, mGet, strsOf, intsOf, blsOf, Option.bind_some, intsD_map, strsD_map, blsD_map, Option.isSome_some, szl, Nat.reduceLeDiff, qEq_ii, qNe_ii, Bool.not_true, Bool.not_false, decT, decF, dDelT, dDisp, dPairs, dFld, dFldS, dMeth, dMake, dIEnum, dAugK, dNever, dListRev, dListRg1, dPar, dListZip, dForD, mSetd, dRaise, dCallX, dMethX, dMakeX, dTryOnly, dTryAs, wipeE, qIsE, clsVal, clsVals, PySem.W.kitAny, eq_self, true_and, h1, h2, h3, h4, jntF_1, jntF_2, jntF_3, f1, f2]
    refine Done.list hM (takeK rfl) (Nat.le_refl _) (getK0 rfl) (by rfl) q
  | app f ts =>
    rw [Tm.d_app] at f1
    rw [Tm.size_app] at huz
    have hts := Tm.len_sizes ts
    try simp only [dSeq, dAsg, dgName, dgTup, dgCons, dgNil, dgSub, dRet, dRetN, dIfS, dDrop, dNext, dBreak, dCont, dAug, dVar, dC, dBin, dTest, dChain, dTru, dNotT, dAndT, dOrT, dAndV, dOrV, dNotV, dIf, dNil, dCons, dTup, dLst, dNewDict, dNeg, dCB, dBM, dBM0, dCall, dYes,   dSl, dNoPart, dPart, qSl, dBack, qBack, dFor, dISeq, dIRng1, dIRng2, dIZip, dLc, dDc,   qAdd, qInt, qInt0, qSub, qMul, qDiv, qMod, qPow, qLt, qLe, qGt, qGe, qIs, qIsNot, qIx, qLen, qAbs, qMax, qMin, qSum, qAll, qAny, qInt_, qStr_, qList_, qTuple_, qDict_, qIsi, qSet, iAdd, iSub, iMul, iDiv, iMod,   mAppend, mExtend, mPop, truD, tyN, isTy, seqD, lstD, keyD, isNonD,   kit_ii, kit_bi, kit_si, kit_ti, kit_li, kit_di, kit_ni, kit_ib, kit_bb, kit_sb, kit_tb, kit_lb, kit_nb, kit_is, kit_ss, kit_ts, kit_ls, kit_ns, kit_it, kit_st, kit_tt, kit_lt, kit_nt, kit_il, kit_tl, kit_ll, kit_dl, kit_nl, kit_dd, kit_nd, kit_ld,   startD, wipeD, List.map_cons, List.map_nil, List.length_cons, List.length_nil, Nat.reduceAdd, Nat.reduceSub, List.replicate_succ, List.replicate_zero, List.cons_append, List.nil_append, List.getElem?_cons_zero, List.getElem?_cons_succ, List.set_cons_zero, List.set_cons_succ,   List.length_append, List.length_set, set_get, Option.map_some, List.set_set, atI_0, atI_1, atI_2, atI_3, atI_4, atI_5, atI_6, List.append_assoc, Nat.add_assoc, getK, getK0, getL, setK, setK0, setL, List.length_map, mJoin, mIndex, mCount, mGet, strsOf, intsOf, blsOf, Option.bind_some, intsD_map, strsD_map, blsD_map, Option.isSome_some, szl, Nat.reduceLeDiff, qEq_ii, qNe_ii, Bool.not_true, Bool.not_false, decT, decF, dDelT, dDisp, dPairs, dFld, dFldS, dMeth, dMake, dIEnum, dAugK, dNever, dListRev, dListRg1, dPar, dListZip, dForD, mSetd, dRaise, dCallX, dMethX, dMakeX, dTryOnly, dTryAs, wipeE, qIsE, clsVal, clsVals, PySem.W.kitAny, eq_self, true_and, h1, h2, h3, h4, jntF_1, jntF_2, jntF_3, f1, f2]
    refine ⟨⟨by omega, by omega⟩, ?_⟩
    refine lcGo_ind (fun items M' acc => ∃ j m : Nat, items = rngD j m ∧ j + m = ts.length ∧ M' = M ∧ acc = natD ((List.range j).map fun k => o + k)) ?_ ?_ _ _ _ ⟨0, ts.length, by simp, by omega, rfl, rfl⟩
    · rintro x rest M' acc ⟨j, m, hi, hjm, rfl, rfl⟩ ih
      refine ⟨trivial, ?_⟩
      cases m with
      | zero => rw [rngD_zero] at hi; cases hi
      | succ m =>
      rw [rngD_succ] at hi
      injection hi with hx hr
      subst hx hr
      try simp only [dSeq, dAsg, dgName, dgTup, dgCons, dgNil, dgSub, dRet, dRetN, dIfS, dDrop, dNext, dBreak, dCont, dAug, dVar, dC, dBin, dTest, dChain, dTru, dNotT, dAndT, dOrT, dAndV, dOrV, dNotV, dIf, dNil, dCons, dTup, dLst, dNewDict, dNeg, dCB, dBM, dBM0, dCall, dYes,   dSl, dNoPart, dPart, qSl, dBack, qBack, dFor, dISeq, dIRng1, dIRng2, dIZip, dLc, dDc,   qAdd, qInt, qInt0, qSub, qMul, qDiv, qMod, qPow, qLt, qLe, qGt, qGe, qIs, qIsNot, qIx, qLen, qAbs, qMax, qMin, qSum, qAll, qAny, qInt_, qStr_, qList_, qTuple_, qDict_, qIsi, qSet, iAdd, iSub, iMul, iDiv, iMod,   mAppend, mExtend, mPop, truD, tyN, isTy, seqD, lstD, keyD, isNonD,   kit_ii, kit_bi, kit_si, kit_ti, kit_li, kit_di, kit_ni, kit_ib, kit_bb, kit_sb, kit_tb, kit_lb, kit_nb, kit_is, kit_ss, kit_ts, kit_ls, kit_ns, kit_it, kit_st, kit_tt, kit_lt, kit_nt, kit_il, kit_tl, kit_ll, kit_dl, kit_nl, kit_dd, kit_nd, kit_ld,   startD, wipeD, List.map_cons, List.map_nil, List.length_cons, List.length_nil, Nat.reduceAdd, Nat.reduceSub, List.replicate_succ, List.replicate_zero, List.cons_append, List.nil_append, List.getElem?_cons_zero, List.getElem?_cons_succ, List.set_cons_zero, List.set_cons_succ,   List.length_append, List.length_set, set_get, Option.map_some, List.set_set, atI_0, atI_1, atI_2, atI_3, atI_4, atI_5, atI_6, List.append_assoc, Nat.add_assoc, getK, getK0, getL, setK, setK0, setL, List.length_map, mJoin, mIndex, mCount, mGet, strsOf, intsOf, blsOf, Option.bind_some, intsD_map, strsD_map, blsD_map, Option.isSome_some, szl, Nat.reduceLeDiff, qEq_ii, qNe_ii, Bool.not_true, Bool.not_false, decT, decF, dDelT, dDisp, dPairs, dFld, dFldS, dMeth, dMake, dIEnum, dAugK, dNever, dListRev, dListRg1, dPar, dListZip, dForD, mSetd, dRaise, dCallX, dMethX, dMakeX, dTryOnly, dTryAs, wipeE, qIsE, clsVal, clsVals, PySem.W.kitAny, eq_self, true_and, h1, h2, h3, h4, jntF_1, jntF_2, jntF_3, f1, f2]
      refine ⟨?_, ih _ _ ⟨j + 1, m, by rw [Int.natCast_add]; rfl, by omega, rfl, ?_⟩⟩
      · unfold natD; rw [List.length_map, List.length_map, List.length_range]; omega
      · rw [List.range_succ]
        unfold natD
        rw [List.map_append, List.map_append]
        simp
    · rintro M' acc ⟨j, m, hi, hjm, rfl, rfl⟩
      have hm0 : m = 0 := by
        have := congrArg List.length hi
        rw [rngD_length] at this
        simpa using this.symm
      subst hm0
      rw [Nat.add_zero] at hjm
      subst hjm
      refine ⟨trivial, ?_⟩
      try simp only [dSeq, dAsg, dgName, dgTup, dgCons, dgNil, dgSub, dRet, dRetN, dIfS, dDrop, dNext, dBreak, dCont, dAug, dVar, dC, dBin, dTest, dChain, dTru, dNotT, dAndT, dOrT, dAndV, dOrV, dNotV, dIf, dNil, dCons, dTup, dLst, dNewDict, dNeg, dCB, dBM, dBM0, dCall, dYes,   dSl, dNoPart, dPart, qSl, dBack, qBack, dFor, dISeq, dIRng1, dIRng2, dIZip, dLc, dDc,   qAdd, qInt, qInt0, qSub, qMul, qDiv, qMod, qPow, qLt, qLe, qGt, qGe, qIs, qIsNot, qIx, qLen, qAbs, qMax, qMin, qSum, qAll, qAny, qInt_, qStr_, qList_, qTuple_, qDict_, qIsi, qSet, iAdd, iSub, iMul, iDiv, iMod,   mAppend, mExtend, mPop, truD, tyN, isTy, seqD, lstD, keyD, isNonD,   kit_ii, kit_bi, kit_si, kit_ti, kit_li, kit_di, kit_ni, kit_ib, kit_bb, kit_sb, kit_tb, kit_lb, kit_nb, kit_is, kit_ss, kit_ts, kit_ls, kit_ns, kit_it, kit_st, kit_tt, kit_lt, kit_nt, kit_il, kit_tl, kit_ll, kit_dl, kit_nl, kit_dd, kit_nd, kit_ld,   startD, wipeD, List.map_cons, List.map_nil, List.length_cons, List.length_nil, Nat.reduceAdd, Nat.reduceSub, List.replicate_succ, List.replicate_zero, List.cons_append, List.nil_append, List.getElem?_cons_zero, List.getElem?_cons_succ, List.set_cons_zero, List.set_cons_succ,   List.length_append, List.length_set, set_get, Option.map_some, List.set_set, atI_0, atI_1, atI_2, atI_3, atI_4, atI_5, atI_6, List.append_assoc, Nat.add_assoc, getK, getK0, getL, setK, setK0, setL, List.length_map, mJoin, mIndex, mCount, mGet, strsOf, intsOf, blsOf, Option.bind_some, intsD_map, strsD_map, blsD_map, Option.isSome_some, szl, Nat.reduceLeDiff, qEq_ii, qNe_ii, Bool.not_true, Bool.not_false, decT, decF, dDelT, dDisp, dPairs, dFld, dFldS, dMeth, dMake, dIEnum, dAugK, dNever, dListRev, dListRg1, dPar, dListZip, dForD, mSetd, dRaise, dCallX, dMethX, dMakeX, dTryOnly, dTryAs, wipeE, qIsE, clsVal, clsVals, PySem.W.kitAny, eq_self, true_and]
      refine Done.list hM (takeK rfl) (Nat.le_refl _) (getK0 rfl) ?_ q
      rw [okDs_iff]
      intro d hd
      unfold natD at hd
      obtain ⟨x, _, rfl⟩ := List.mem_map.mp hd
      rfl
def sp_jtop : DSp := fun ds M Q _ => ∃ (n a b c i r d : Nat) (P : List Tm) (F L : List Nat), ds = [.loc n, .int i] ∧ JntAt K M n a b c P F L ∧ n ≠ c ∧ a ≠ c ∧ b ≠ c ∧ L.length ≤ 10000 ∧ RtN L d i r ∧
  ∀ L', SameTops L L' → Q (.int r) (M.set c (.lst (natD L')))
theorem JntAt.links {M : Mem} {n a b c : Nat} {P : List Tm} {F L : List Nat} (h : JntAt K M n a b c P F L) (h1 : n ≠ c) (h2 : a ≠ c) (h3 : b ≠ c) (L' : List Nat) : JntAt K (M.set c (.lst (natD L'))) n a b c P F L' := by
  obtain ⟨e1, e2, e3, e4⟩ := h
  exact ⟨by rw [List.getElem?_set_ne h1.symm]; exact e1, by rw [List.getElem?_set_ne h2.symm]; exact e2, by rw [List.getElem?_set_ne h3.symm]; exact e3, List.getElem?_set_self (List.getElem?_eq_some_iff.mp e4).1⟩
theorem natD_at {L : List Nat} {i j : Nat} (h : L[i]? = some j) : atI (natD L) (i : Int) = some (.int (j : Nat)) := atI_nat (by unfold natD; rw [List.getElem?_map, h]; rfl)
theorem natD_set {L : List Nat} {i g : Nat} : (natD L).set i (.int (g : Nat)) = natD (L.set i g) := by unfold natD; rw [List.map_set]
theorem natD_len {L : List Nat} : (natD L).length = L.length := by unfold natD; rw [List.length_map]
theorem fn_jtop (T : Top K mg) : DMeth P w K mg base CX0 1 (He.ga K "Joint") "top" ["self", "number"] (sp_jtop (K := K)) := by
  obtain ⟨fd, F⟩ := T.d_Joint_top
  have sc := sc_Joint_top
  refine DMeth.ofD (k := 0) F T.m_Joint_top T.c_Joint (FunD.bindsN F fun _ _ _ _ _ _ us hl => match us, hl with | [_, _], _ => rfl) sc ?len ⟨_, fun cdv A outer s H E m0 hr => (
      (dss_cons (ds_while PassesOwn.never (dt_cmp (dop_ne hr) (de_ix hr (de_fld T.c_Joint T.a_Joint__links (de_var 0)) (de_var 1)) (de_var 1)) (dss_cons (ds_asg (de_ix hr (de_fld T.c_Joint T.a_Joint__links (de_var 0)) (de_ix hr (de_fld T.c_Joint T.a_Joint__links (de_var 0)) (de_var 1))) (dg_sub hr (de_fld T.c_Joint T.a_Joint__links (de_var 0)) (de_var 1)))
      (dss_one (ds_set 1 sc.nd (de_ix hr (de_fld T.c_Joint T.a_Joint__links (de_var 0)) (de_var 1))))))
      (dss_one (ds_ret (de_var 1))))), ?_⟩
  case len =>
    rintro ds M Q E ⟨n, a, b, c, i, r, d, P, F, L, rfl, _⟩
    rfl
  rintro ds M Qd Ed ⟨n, a, b, c, i, r, d, P, F, L, rfl, hJ, h1, h2, h3, hL, hr, q⟩ hM
  have hML : M.set c (.lst (natD L)) = M := by
    refine List.ext_getElem? fun x => ?_
    by_cases h : c = x
    · subst h; rw [List.getElem?_set_self (List.getElem?_eq_some_iff.mp hJ.2.2.2).1, hJ.2.2.2]
    · rw [List.getElem?_set_ne h]
  try simp only [dSeq, dAsg, dgName, dgTup, dgCons, dgNil, dgSub, dRet, dRetN, dIfS, dDrop, dNext, dBreak, dCont, dAug, dVar, dC, dBin, dTest, dChain, dTru, dNotT, dAndT, dOrT, dAndV, dOrV, dNotV, dIf, dNil, dCons, dTup, dLst, dNewDict, dNeg, dCB, dBM, dBM0, dCall, dYes,   dSl, dNoPart, dPart, qSl, dBack, qBack, dFor, dISeq, dIRng1, dIRng2, dIZip, dLc, dDc,   qAdd, qInt, qInt0, qSub, qMul, qDiv, qMod, qPow, qLt, qLe, qGt, qGe, qIs, qIsNot, qIx, qLen, qAbs, qMax, qMin, qSum, qAll, qAny, qInt_, qStr_, qList_, qTuple_, qDict_, qIsi, qSet, iAdd, iSub, iMul, iDiv, iMod,   mAppend, mExtend, mPop, truD, tyN, isTy, seqD, lstD, keyD, isNonD,   kit_ii, kit_bi, kit_si, kit_ti, kit_li, kit_di, kit_ni, kit_ib, kit_bb, kit_sb, kit_tb, kit_lb, kit_nb, kit_is, kit_ss, kit_ts, kit_ls, kit_ns, kit_it, kit_st, kit_tt, kit_lt, kit_nt, kit_il, kit_tl, kit_ll, kit_dl, kit_nl, kit_dd, kit_nd, kit_ld,   startD, wipeD, List.map_cons, List.map_nil, List.length_cons, List.length_nil, Nat.reduceAdd, Nat.reduceSub, List.replicate_succ, List.replicate_zero, List.cons_append, List.nil_append, List.getElem?_cons_zero, List.getElem?_cons_succ, List.set_cons_zero, List.set_cons_succ,   List.length_append, List.length_set, set_get, Option.map_some, List.set_set, atI_0, atI_1, atI_2, atI_3, atI_4, atI_5, atI_6, List.append_assoc, Nat.add_assoc, getK, getK0, getL, setK, setK0, setL, List.length_map, mJoin, mIndex, mCount, mGet, strsOf, intsOf, blsOf, Option.bind_some, intsD_map, strsD_map, blsD_map, Option.isSome_some, szl, Nat.reduceLeDiff, qEq_ii, qNe_ii, Bool.not_true, Bool.not_false, decT, decF, dDelT, dDisp, dPairs, dFld, dFldS, dMeth, dMake, dIEnum, dAugK, dNever, dListRev, dListRg1, dPar, dListZip, dForD, mSetd, dRaise, dCallX, dMethX, dMakeX, dTryOnly, dTryAs, wipeE, qIsE, clsVal, clsVals, PySem.W.kitAny, eq_self, true_and]
  refine while_ind (fun k r' M' => ∃ (x : Nat) (L1 : List Nat), SameTops L L1 ∧ RtN L1 k x r ∧ r' = [some (D.loc n), some (.int x)] ∧ M' = M.set c (.lst (natD L1))) d ⟨i, L, .refl L, hr, rfl, hML.symm⟩ ?_
  rintro k r' M' ⟨x, L1, hs, hx, rfl, rfl⟩
  obtain ⟨e1, e2, e3, e4⟩ := hJ.links h1 h2 h3 L1
  have hcl := (List.getElem?_eq_some_iff.mp hJ.2.2.2).1
  have hxl := hx.lt
  cases k with
  | zero =>
    obtain ⟨rfl, hx0⟩ := hx
    have f1 := natD_at hx0
    try simp only [dSeq, dAsg, dgName, dgTup, dgCons, dgNil, dgSub, dRet, dRetN, dIfS, dDrop, dNext, dBreak, dCont, dAug, dVar, dC, dBin, dTest, dChain, dTru, dNotT, dAndT, dOrT, dAndV, dOrV, dNotV, dIf, dNil, dCons, dTup, dLst, dNewDict, dNeg, dCB, dBM, dBM0, dCall, dYes,   dSl, dNoPart, dPart, qSl, dBack, qBack, dFor, dISeq, dIRng1, dIRng2, dIZip, dLc, dDc,   qAdd, qInt, qInt0, qSub, qMul, qDiv, qMod, qPow, qLt, qLe, qGt, qGe, qIs, qIsNot, qIx, qLen, qAbs, qMax, qMin, qSum, qAll, qAny, qInt_, qStr_, qList_, qTuple_, qDict_, qIsi, qSet, iAdd, iSub, iMul, iDiv, iMod,   mAppend, mExtend, mPop, truD, tyN, isTy, seqD, lstD, keyD, isNonD,   kit_ii, kit_bi, kit_si, kit_ti, kit_li, kit_di, kit_ni, kit_ib, kit_bb, kit_sb, kit_tb, kit_lb, kit_nb, kit_is, kit_ss, kit_ts, kit_ls, kit_ns, kit_it, kit_st, kit_tt, kit_lt, kit_nt, kit_il, kit_tl, kit_ll, kit_dl, kit_nl, kit_dd, kit_nd, kit_ld,   startD, wipeD, List.map_cons, List.map_nil, List.length_cons, List.length_nil, Nat.reduceAdd, Nat.reduceSub, List.replicate_succ, List.replicate_zero, List.cons_append, List.nil_append, List.getElem?_cons_zero, List.getElem?_cons_succ, List.set_cons_zero, List.set_cons_succ,   List.length_append, List.length_set, set_get, Option.map_some, List.set_set, atI_0, atI_1, atI_2, atI_3, atI_4, atI_5, atI_6, List.append_assoc, Nat.add_assoc, getK, getK0, getL, setK, setK0, setL, List.length_map, mJoin, mIndex, mCount, mGet, strsOf, intsOf, blsOf, Option.bind_some, intsD_map, strsD_map, blsD_map, Option.isSome_some, szl, Nat.reduceLeDiff, qEq_ii, qNe_ii, Bool.not_true, Bool.not_false, decT, decF, dDelT, dDisp, dPairs, dFld, dFldS, dMeth, dMake, dIEnum, dAugK, dNever, dListRev, dListRg1, dPar, dListZip, dForD, mSetd, dRaise, dCallX, dMethX, dMakeX, dTryOnly, dTryAs, wipeE, qIsE, clsVal, clsVals, PySem.W.kitAny, eq_self, true_and, e1, e2, e3, e4, jntF_1, jntF_2, jntF_3, f1]
    exact .same (q L1 hs)
  | succ k =>
    obtain ⟨j, hj, hjx, hjr⟩ := id hx
    have f1 := natD_at hj
    obtain ⟨g, hg⟩ : ∃ g, L1[j]? = some g := ⟨_, List.getElem?_eq_getElem hjr.lt⟩
    have f2 := natD_at hg
    obtain ⟨hs2, d', hd', hr'⟩ := halve hj hg hx
    have dn : decide ((j : Int) = (x : Int)) = false := decide_eq_false (by omega)
    have hI : ixN (natD L1).length (x : Int) = some x := ixN_nat (by rw [natD_len]; exact hxl)
    obtain ⟨g1, g2, g3, g4⟩ := hJ.links h1 h2 h3 (L1.set x g)
    have f3 := natD_at (L := L1.set x g) (i := x) (j := g) (List.getElem?_set_self hxl)
    try simp only [dSeq, dAsg, dgName, dgTup, dgCons, dgNil, dgSub, dRet, dRetN, dIfS, dDrop, dNext, dBreak, dCont, dAug, dVar, dC, dBin, dTest, dChain, dTru, dNotT, dAndT, dOrT, dAndV, dOrV, dNotV, dIf, dNil, dCons, dTup, dLst, dNewDict, dNeg, dCB, dBM, dBM0, dCall, dYes,   dSl, dNoPart, dPart, qSl, dBack, qBack, dFor, dISeq, dIRng1, dIRng2, dIZip, dLc, dDc,   qAdd, qInt, qInt0, qSub, qMul, qDiv, qMod, qPow, qLt, qLe, qGt, qGe, qIs, qIsNot, qIx, qLen, qAbs, qMax, qMin, qSum, qAll, qAny, qInt_, qStr_, qList_, qTuple_, qDict_, qIsi, qSet, iAdd, iSub, iMul, iDiv, iMod,   mAppend, mExtend, mPop, truD, tyN, isTy, seqD, lstD, keyD, isNonD,   kit_ii, kit_bi, kit_si, kit_ti, kit_li, kit_di, kit_ni, kit_ib, kit_bb, kit_sb, kit_tb, kit_lb, kit_nb, kit_is, kit_ss, kit_ts, kit_ls, kit_ns, kit_it, kit_st, kit_tt, kit_lt, kit_nt, kit_il, kit_tl, kit_ll, kit_dl, kit_nl, kit_dd, kit_nd, kit_ld,   startD, wipeD, List.map_cons, List.map_nil, List.length_cons, List.length_nil, Nat.reduceAdd, Nat.reduceSub, List.replicate_succ, List.replicate_zero, List.cons_append, List.nil_append, List.getElem?_cons_zero, List.getElem?_cons_succ, List.set_cons_zero, List.set_cons_succ,   List.length_append, List.length_set, set_get, Option.map_some, List.set_set, atI_0, atI_1, atI_2, atI_3, atI_4, atI_5, atI_6, List.append_assoc, Nat.add_assoc, getK, getK0, getL, setK, setK0, setL, List.length_map, mJoin, mIndex, mCount, mGet, strsOf, intsOf, blsOf, Option.bind_some, intsD_map, strsD_map, blsD_map, Option.isSome_some, szl, Nat.reduceLeDiff, qEq_ii, qNe_ii, Bool.not_true, Bool.not_false, decT, decF, dDelT, dDisp, dPairs, dFld, dFldS, dMeth, dMake, dIEnum, dAugK, dNever, dListRev, dListRg1, dPar, dListZip, dForD, mSetd, dRaise, dCallX, dMethX, dMakeX, dTryOnly, dTryAs, wipeE, qIsE, clsVal, clsVals, PySem.W.kitAny, eq_self, true_and, e1, e2, e3, e4, jntF_1, jntF_2, jntF_3, f1, f2, dn, hI, natD_set, g1, g4, f3]
    exact ⟨d', by omega, g, L1.set x g, hs.trans hs2, hr', rfl, rfl⟩
def pairN (p : Nat × Nat) : D := .tup [.int (p.1 : Nat), .int (p.2 : Nat)]
/-- the like blanks of a row, each with the first one of its number -/
structure Likes (P : List Tm) (lb : List (Nat × Nat)) : Prop where
  sound : ∀ p ∈ lb, ∃ v, P[p.1]? = some (Tm.var v) ∧ P[p.2]? = some (Tm.var v)
  all : ∀ v : Int, (∀ x : Nat, P[x]? ≠ some (Tm.var v)) ∨ ∃ f : Nat, P[f]? = some (Tm.var v) ∧ ∀ x : Nat, P[x]? = some (Tm.var v) → (f, x) ∈ lb
  len : lb.length ≤ P.length
structure LikesD (P : List Tm) (lb : List (Nat × Nat)) (kvs : List (Key × D)) : Prop where
  sound : ∀ p ∈ lb, ∃ v, P[p.1]? = some (Tm.var v) ∧ P[p.2]? = some (Tm.var v)
  all : ∀ v : Int, (valD kvs (Sum.inl v) = none ∧ ∀ x : Nat, P[x]? ≠ some (Tm.var v)) ∨ ∃ f : Nat, valD kvs (Sum.inl v) = some (.int (f : Nat)) ∧ P[f]? = some (Tm.var v) ∧ ∀ x : Nat, P[x]? = some (Tm.var v) → (f, x) ∈ lb
  len : lb.length ≤ P.length
  klen : kvs.length ≤ P.length
theorem snoc_get {α : Type} {l : List α} {a b : α} {x : Nat} (h : (l ++ [a])[x]? = some b) : l[x]? = some b ∨ (x = l.length ∧ b = a) := by
  rcases Nat.lt_trichotomy x l.length with h1 | h1 | h1
  · rw [List.getElem?_append_left h1] at h; exact .inl h
  · subst h1
    rw [List.getElem?_append_right (Nat.le_refl _), Nat.sub_self] at h
    injection h with h
    exact .inr ⟨rfl, h.symm⟩
  · rw [List.getElem?_eq_none (by rw [List.length_append]; simp; omega)] at h; cases h
theorem snoc_old {α : Type} {l : List α} {a b : α} {x : Nat} (h : l[x]? = some b) : (l ++ [a])[x]? = some b := by
  rw [List.getElem?_append_left (List.getElem?_eq_some_iff.mp h).1]; exact h
theorem snoc_new {α : Type} {l : List α} {a : α} : (l ++ [a])[l.length]? = some a := by
  rw [List.getElem?_append_right (Nat.le_refl _), Nat.sub_self]; rfl
theorem LikesD.app {P : List Tm} {lb : List (Nat × Nat)} {kvs : List (Key × D)} {f : Str} {ts : List Tm} (h : LikesD P lb kvs) : LikesD (P ++ [Tm.app f ts]) lb kvs := by
  refine ⟨fun p hp => ?_, fun v => ?_, by rw [List.length_append]; have := h.len; omega, by rw [List.length_append]; have := h.klen; omega⟩
  · obtain ⟨v, h1, h2⟩ := h.sound p hp
    exact ⟨v, snoc_old h1, snoc_old h2⟩
  · have hold : ∀ x : Nat, (P ++ [Tm.app f ts])[x]? = some (Tm.var v) → P[x]? = some (Tm.var v) := fun x hx => by
      rcases snoc_get hx with h | ⟨_, h⟩
      · exact h
      · cases h
    rcases h.all v with ⟨h1, h2⟩ | ⟨g, h1, h2, h3⟩
    · exact .inl ⟨h1, fun x hx => h2 x (hold x hx)⟩
    · exact .inr ⟨g, h1, snoc_old h2, fun x hx => h3 x (hold x hx)⟩
theorem LikesD.seen {P : List Tm} {lb : List (Nat × Nat)} {kvs : List (Key × D)} {v : Int} {f : Nat} (h : LikesD P lb kvs) (e : valD kvs (Sum.inl v) = some (.int (f : Nat))) : LikesD (P ++ [Tm.var v]) (lb ++ [(f, P.length)]) kvs := by
  have hf : P[f]? = some (Tm.var v) ∧ ∀ x : Nat, P[x]? = some (Tm.var v) → (f, x) ∈ lb := by
    rcases h.all v with ⟨h1, _⟩ | ⟨g, h1, h2, h3⟩
    · rw [e] at h1; cases h1
    · rw [e] at h1
      have : f = g := by injection h1 with h1; injection h1 with h1; omega
      subst this
      exact ⟨h2, h3⟩
  refine ⟨fun p hp => ?_, fun w => ?_, by rw [List.length_append, List.length_append]; have := h.len; simp; omega, by rw [List.length_append]; have := h.klen; omega⟩
  · rcases List.mem_append.mp hp with hp | hp
    · obtain ⟨w, h1, h2⟩ := h.sound p hp
      exact ⟨w, snoc_old h1, snoc_old h2⟩
    · rw [List.mem_singleton.mp hp]
      exact ⟨v, snoc_old hf.1, snoc_new⟩
  · by_cases hw : w = v
    · subst hw
      refine .inr ⟨f, e, snoc_old hf.1, fun x hx => ?_⟩
      rcases snoc_get hx with h | ⟨h, _⟩
      · exact List.mem_append_left _ (hf.2 x h)
      · subst h; simp
    · have hold : ∀ x : Nat, (P ++ [Tm.var v])[x]? = some (Tm.var w) → P[x]? = some (Tm.var w) := fun x hx => by
        rcases snoc_get hx with h | ⟨_, h⟩
        · exact h
        · cases h; exact absurd rfl hw
      rcases h.all w with ⟨h1, h2⟩ | ⟨g, h1, h2, h3⟩
      · exact .inl ⟨h1, fun x hx => h2 x (hold x hx)⟩
      · exact .inr ⟨g, h1, snoc_old h2, fun x hx => List.mem_append_left _ (h3 x (hold x hx))⟩
theorem LikesD.fresh {P : List Tm} {lb : List (Nat × Nat)} {kvs : List (Key × D)} {v : Int} (h : LikesD P lb kvs) (e : valD kvs (Sum.inl v) = none) : LikesD (P ++ [Tm.var v]) (lb ++ [(P.length, P.length)]) (putD kvs (Sum.inl v) (.int (P.length : Nat))) := by
  have hno : ∀ x : Nat, P[x]? ≠ some (Tm.var v) := by
    rcases h.all v with ⟨_, h2⟩ | ⟨g, h1, _⟩
    · exact h2
    · rw [e] at h1; cases h1
  refine ⟨fun p hp => ?_, fun w => ?_, by rw [List.length_append, List.length_append]; have := h.len; simp; omega, ?_⟩
  · rcases List.mem_append.mp hp with hp | hp
    · obtain ⟨w, h1, h2⟩ := h.sound p hp
      exact ⟨w, snoc_old h1, snoc_old h2⟩
    · rw [List.mem_singleton.mp hp]
      exact ⟨v, snoc_new, snoc_new⟩
  · rw [valD_putD]
    by_cases hw : w = v
    · subst hw
      rw [if_pos rfl]
      refine .inr ⟨P.length, rfl, snoc_new, fun x hx => ?_⟩
      rcases snoc_get hx with h | ⟨h, _⟩
      · exact absurd h (hno x)
      · subst h; simp
    · rw [if_neg fun e => hw (by injection e with e; exact e.symm)]
      have hold : ∀ x : Nat, (P ++ [Tm.var v])[x]? = some (Tm.var w) → P[x]? = some (Tm.var w) := fun x hx => by
        rcases snoc_get hx with h | ⟨_, h⟩
        · exact h
        · cases h; exact absurd rfl hw
      rcases h.all w with ⟨h1, h2⟩ | ⟨g, h1, h2, h3⟩
      · exact .inl ⟨h1, fun x hx => h2 x (hold x hx)⟩
      · exact .inr ⟨g, h1, snoc_old h2, fun x hx => List.mem_append_left _ (h3 x (hold x hx))⟩
  · have := putD_len kvs (Sum.inl v) (.int (P.length : Nat))
    have := h.klen
    rw [List.length_append]
    simp
    omega
theorem LikesD.done {P : List Tm} {lb : List (Nat × Nat)} {kvs : List (Key × D)} (h : LikesD P lb kvs) : Likes P lb :=
  ⟨h.sound, fun v => by
    rcases h.all v with ⟨_, h2⟩ | ⟨g, _, h2, h3⟩
    · exact .inl h2
    · exact .inr ⟨g, h2, h3⟩, h.len⟩
def sp_likes : DSp := fun ds M Q _ => ∃ (n a b c : Nat) (P : List Tm) (F L : List Nat), ds = [.loc n] ∧ JntAt K M n a b c P F L ∧ P.length ≤ 10000 ∧ ∀ lb, Likes P lb → Q (.loc M.length) (M ++ [.lst (lb.map pairN)])
theorem fn_likes (T : Top K mg) : DMeth P w K mg base CX0 1 (He.ga K "Joint") "like_blanks" ["self"] (sp_likes (K := K)) := by
  obtain ⟨fd, F⟩ := T.d_Joint_like_blanks
  have sc := sc_Joint_like_blanks
  refine DMeth.ofD (k := 0) F T.m_Joint_like_blanks T.c_Joint (FunD.bindsN F fun _ _ _ _ _ _ us hl => match us, hl with | [_], _ => rfl) sc ?len ⟨_, fun cdv A outer s H E m0 hr => (
      (dss_cons (ds_set 1 sc.nd (de_lst da_nil))
      (dss_cons (ds_set 2 sc.nd de_dict0)
      (dss_cons (ds_for PassesOwn.never rfl (di_enum T.n_enumerate (da_cons (de_fld T.c_Joint T.a_Joint_parts (de_var 0)) da_nil)) (dg_tup (n := 2) rfl (dgs_cons (dg_name 3 sc.nd) (dgs_cons (dg_name 4 sc.nd) dgs_nil))) (dss_one (ds_if (dt_e (de_cb T.n_isinstance dc_isi b_isinstance (da_cons (de_var 4) (da_cons (de_ty T.n_int b_int) da_nil)))) (dss_one (ds_expr (de_bm PySem.F.plainAttrs_list PySem.F.slot_list_append PySem.F.type_list_append dm_append (de_var 1) (da_cons (de_tup (da_cons (de_bm PySem.F.plainAttrs_dict PySem.F.slot_dict_setdefault PySem.F.type_dict_setdefault dm_setd (de_var 2) (da_cons (de_var 4) (da_cons (de_var 3) da_nil))) (da_cons (de_var 3) da_nil))) da_nil)))) dss_nil)))
      (dss_one (ds_ret (de_var 1))))))), ?_⟩
  case len =>
    rintro ds M Q E ⟨n, a, b, c, P, F, L, rfl, _⟩
    rfl
  rintro ds M Qd Ed ⟨n, a, b, c, P, F, L, rfl, hJ, hP, q⟩ hM
  obtain ⟨h1, h2, h3, h4⟩ := id hJ
  have hal := (List.getElem?_eq_some_iff.mp h2).1
  have ha2 : ∀ G : Mem, (M ++ G)[a]? = some (.lst (P.map Tm.d)) := fun G => by rw [getL hal]; exact h2
  have hnl := (List.getElem?_eq_some_iff.mp h1).1
  have hn2 : ∀ G : Mem, (M ++ G)[n]? = some (.ins (He.ga K "Joint") (jntF (.loc a) (.loc b) (.loc c))) := fun G => by rw [getL hnl]; exact h1
  try simp only [dSeq, dAsg, dgName, dgTup, dgCons, dgNil, dgSub, dRet, dRetN, dIfS, dDrop, dNext, dBreak, dCont, dAug, dVar, dC, dBin, dTest, dChain, dTru, dNotT, dAndT, dOrT, dAndV, dOrV, dNotV, dIf, dNil, dCons, dTup, dLst, dNewDict, dNeg, dCB, dBM, dBM0, dCall, dYes,   dSl, dNoPart, dPart, qSl, dBack, qBack, dFor, dISeq, dIRng1, dIRng2, dIZip, dLc, dDc,   qAdd, qInt, qInt0, qSub, qMul, qDiv, qMod, qPow, qLt, qLe, qGt, qGe, qIs, qIsNot, qIx, qLen, qAbs, qMax, qMin, qSum, qAll, qAny, qInt_, qStr_, qList_, qTuple_, qDict_, qIsi, qSet, iAdd, iSub, iMul, iDiv, iMod,   mAppend, mExtend, mPop, truD, tyN, isTy, seqD, lstD, keyD, isNonD,   kit_ii, kit_bi, kit_si, kit_ti, kit_li, kit_di, kit_ni, kit_ib, kit_bb, kit_sb, kit_tb, kit_lb, kit_nb, kit_is, kit_ss, kit_ts, kit_ls, kit_ns, kit_it, kit_st, kit_tt, kit_lt, kit_nt, kit_il, kit_tl, kit_ll, kit_dl, kit_nl, kit_dd, kit_nd, kit_ld,   startD, wipeD, List.map_cons, List.map_nil, List.length_cons, List.length_nil, Nat.reduceAdd, Nat.reduceSub, List.replicate_succ, List.replicate_zero, List.cons_append, List.nil_append, List.getElem?_cons_zero, List.getElem?_cons_succ, List.set_cons_zero, List.set_cons_succ,   List.length_append, List.length_set, set_get, Option.map_some, List.set_set, atI_0, atI_1, atI_2, atI_3, atI_4, atI_5, atI_6, List.append_assoc, Nat.add_assoc, getK, getK0, getL, setK, setK0, setL, List.length_map, mJoin, mIndex, mCount, mGet, strsOf, intsOf, blsOf, Option.bind_some, intsD_map, strsD_map, blsD_map, Option.isSome_some, szl, Nat.reduceLeDiff, qEq_ii, qNe_ii, Bool.not_true, Bool.not_false, decT, decF, dDelT, dDisp, dPairs, dFld, dFldS, dMeth, dMake, dIEnum, dAugK, dNever, dListRev, dListRg1, dPar, dListZip, dForD, mSetd, dRaise, dCallX, dMethX, dMakeX, dTryOnly, dTryAs, wipeE, qIsE, clsVal, clsVals, PySem.W.kitAny, eq_self, true_and, hn2, h1, h2, jntF_1, ha2]
  refine forGo_ind (fun items r M' => ∃ (ps qs : List Tm) (lb : List (Nat × Nat)) (kvs : List (Key × D)) (u v : Option D), P = ps ++ qs ∧ items = enumD ps.length (qs.map Tm.d) ∧ r = [some (D.loc n), some (D.loc M.length), some (D.loc (M.length + 1)), u, v] ∧
    M' = M ++ [.lst (lb.map pairN), .dic kvs] ∧ LikesD ps lb kvs) ?_ ?_ _ _ _ ⟨[], P, [], [], none, none, rfl, rfl, rfl, rfl, ⟨(fun _ h => by cases h), fun v => .inl ⟨rfl, fun x => by simp⟩, Nat.le_refl _, Nat.le_refl _⟩⟩
  · rintro x rest r M' ⟨ps, qs, lb, kvs, u, v, hps, hi, rfl, rfl, hk⟩ ih
    refine ⟨ha2 _, ?_⟩
    cases qs with
    | nil => cases hi
    | cons t qs =>
    rw [List.map_cons] at hi
    injection hi with hx hr
    subst hx hr
    have hpl := congrArg List.length hps
    rw [List.length_append, List.length_cons] at hpl
    have hkl := hk.klen
    have hbl := hk.len
    cases t with
    | var i =>
      rw [Tm.d_var]
      cases hv : valD kvs (Sum.inl i) with
      | none =>
        try simp only [dSeq, dAsg, dgName, dgTup, dgCons, dgNil, dgSub, dRet, dRetN, dIfS, dDrop, dNext, dBreak, dCont, dAug, dVar, dC, dBin, dTest, dChain, dTru, dNotT, dAndT, dOrT, dAndV, dOrV, dNotV, dIf, dNil, dCons, dTup, dLst, dNewDict, dNeg, dCB, dBM, dBM0, dCall, dYes,   dSl, dNoPart, dPart, qSl, dBack, qBack, dFor, dISeq, dIRng1, dIRng2, dIZip, dLc, dDc,   qAdd, qInt, qInt0, qSub, qMul, qDiv, qMod, qPow, qLt, qLe, qGt, qGe, qIs, qIsNot, qIx, qLen, qAbs, qMax, qMin, qSum, qAll, qAny, qInt_, qStr_, qList_, qTuple_, qDict_, qIsi, qSet, iAdd, iSub, iMul, iDiv, iMod,   mAppend, mExtend, mPop, truD, tyN, isTy, seqD, lstD, keyD, isNonD,   kit_ii, kit_bi, kit_si, kit_ti, kit_li, kit_di, kit_ni, kit_ib, kit_bb, kit_sb, kit_tb, kit_lb, kit_nb, kit_is, kit_ss, kit_ts, kit_ls, kit_ns, kit_it, kit_st, kit_tt, kit_lt, kit_nt, kit_il, kit_tl, kit_ll, kit_dl, kit_nl, kit_dd, kit_nd, kit_ld,   startD, wipeD, List.map_cons, List.map_nil, List.length_cons, List.length_nil, Nat.reduceAdd, Nat.reduceSub, List.replicate_succ, List.replicate_zero, List.cons_append, List.nil_append, List.getElem?_cons_zero, List.getElem?_cons_succ, List.set_cons_zero, List.set_cons_succ,   List.length_append, List.length_set, set_get, Option.map_some, List.set_set, atI_0, atI_1, atI_2, atI_3, atI_4, atI_5, atI_6, List.append_assoc, Nat.add_assoc, getK, getK0, getL, setK, setK0, setL, List.length_map, mJoin, mIndex, mCount, mGet, strsOf, intsOf, blsOf, Option.bind_some, intsD_map, strsD_map, blsD_map, Option.isSome_some, szl, Nat.reduceLeDiff, qEq_ii, qNe_ii, Bool.not_true, Bool.not_false, decT, decF, dDelT, dDisp, dPairs, dFld, dFldS, dMeth, dMake, dIEnum, dAugK, dNever, dListRev, dListRg1, dPar, dListZip, dForD, mSetd, dRaise, dCallX, dMethX, dMakeX, dTryOnly, dTryAs, wipeE, qIsE, clsVal, clsVals, PySem.W.kitAny, eq_self, true_and, hv]
        exact ⟨by omega, by omega, ih _ _ ⟨ps ++ [Tm.var i], qs, lb ++ [(ps.length, ps.length)], _, _, _, by rw [hps, List.append_assoc]; rfl, by rw [List.length_append]; rfl, rfl, by rw [List.map_append]; rfl, hk.fresh hv⟩⟩
      | some d =>
        obtain ⟨f, rfl⟩ : ∃ f : Nat, d = .int (f : Nat) := by
          rcases hk.all i with ⟨h1, _⟩ | ⟨g, h1, _⟩
          · rw [hv] at h1; cases h1
          · rw [hv] at h1; injection h1 with h1; exact ⟨g, h1⟩
        try simp only [dSeq, dAsg, dgName, dgTup, dgCons, dgNil, dgSub, dRet, dRetN, dIfS, dDrop, dNext, dBreak, dCont, dAug, dVar, dC, dBin, dTest, dChain, dTru, dNotT, dAndT, dOrT, dAndV, dOrV, dNotV, dIf, dNil, dCons, dTup, dLst, dNewDict, dNeg, dCB, dBM, dBM0, dCall, dYes,   dSl, dNoPart, dPart, qSl, dBack, qBack, dFor, dISeq, dIRng1, dIRng2, dIZip, dLc, dDc,   qAdd, qInt, qInt0, qSub, qMul, qDiv, qMod, qPow, qLt, qLe, qGt, qGe, qIs, qIsNot, qIx, qLen, qAbs, qMax, qMin, qSum, qAll, qAny, qInt_, qStr_, qList_, qTuple_, qDict_, qIsi, qSet, iAdd, iSub, iMul, iDiv, iMod,   mAppend, mExtend, mPop, truD, tyN, isTy, seqD, lstD, keyD, isNonD,   kit_ii, kit_bi, kit_si, kit_ti, kit_li, kit_di, kit_ni, kit_ib, kit_bb, kit_sb, kit_tb, kit_lb, kit_nb, kit_is, kit_ss, kit_ts, kit_ls, kit_ns, kit_it, kit_st, kit_tt, kit_lt, kit_nt, kit_il, kit_tl, kit_ll, kit_dl, kit_nl, kit_dd, kit_nd, kit_ld,   startD, wipeD, List.map_cons, List.map_nil, List.length_cons, List.length_nil, Nat.reduceAdd, Nat.reduceSub, List.replicate_succ, List.replicate_zero, List.cons_append, List.nil_append, List.getElem?_cons_zero, List.getElem?_cons_succ, List.set_cons_zero, List.set_cons_succ,   List.length_append, List.length_set, set_get, Option.map_some, List.set_set, atI_0, atI_1, atI_2, atI_3, atI_4, atI_5, atI_6, List.append_assoc, Nat.add_assoc, getK, getK0, getL, setK, setK0, setL, List.length_map, mJoin, mIndex, mCount, mGet, strsOf, intsOf, blsOf, Option.bind_some, intsD_map, strsD_map, blsD_map, Option.isSome_some, szl, Nat.reduceLeDiff, qEq_ii, qNe_ii, Bool.not_true, Bool.not_false, decT, decF, dDelT, dDisp, dPairs, dFld, dFldS, dMeth, dMake, dIEnum, dAugK, dNever, dListRev, dListRg1, dPar, dListZip, dForD, mSetd, dRaise, dCallX, dMethX, dMakeX, dTryOnly, dTryAs, wipeE, qIsE, clsVal, clsVals, PySem.W.kitAny, eq_self, true_and, hv]
        exact ⟨by omega, by omega, ih _ _ ⟨ps ++ [Tm.var i], qs, lb ++ [(f, ps.length)], _, _, _, by rw [hps, List.append_assoc]; rfl, by rw [List.length_append]; rfl, rfl, by rw [List.map_append]; rfl, hk.seen hv⟩⟩
    | app f ts =>
      rw [Tm.d_app]
      try simp only [dSeq, dAsg, dgName, dgTup, dgCons, dgNil, dgSub, dRet, dRetN, dIfS, dDrop, dNext, dBreak, dCont, dAug, dVar, dC, dBin, dTest, dChain, dTru, dNotT, dAndT, dOrT, dAndV, dOrV, dNotV, dIf, dNil, dCons, dTup, dLst, dNewDict, dNeg, dCB, dBM, dBM0, dCall, dYes,   dSl, dNoPart, dPart, qSl, dBack, qBack, dFor, dISeq, dIRng1, dIRng2, dIZip, dLc, dDc,   qAdd, qInt, qInt0, qSub, qMul, qDiv, qMod, qPow, qLt, qLe, qGt, qGe, qIs, qIsNot, qIx, qLen, qAbs, qMax, qMin, qSum, qAll, qAny, qInt_, qStr_, qList_, qTuple_, qDict_, qIsi, qSet, iAdd, iSub, iMul, iDiv, iMod,   mAppend, mExtend, mPop, truD, tyN, isTy, seqD, lstD, keyD, isNonD,   kit_ii, kit_bi, kit_si, kit_ti, kit_li, kit_di, kit_ni, kit_ib, kit_bb, kit_sb, kit_tb, kit_lb, kit_nb, kit_is, kit_ss, kit_ts, kit_ls, kit_ns, kit_it, kit_st, kit_tt, kit_lt, kit_nt, kit_il, kit_tl, kit_ll, kit_dl, kit_nl, kit_dd, kit_nd, kit_ld,   startD, wipeD, List.map_cons, List.map_nil, List.length_cons, List.length_nil, Nat.reduceAdd, Nat.reduceSub, List.replicate_succ, List.replicate_zero, List.cons_append, List.nil_append, List.getElem?_cons_zero, List.getElem?_cons_succ, List.set_cons_zero, List.set_cons_succ,   List.length_append, List.length_set, set_get, Option.map_some, List.set_set, atI_0, atI_1, atI_2, atI_3, atI_4, atI_5, atI_6, List.append_assoc, Nat.add_assoc, getK, getK0, getL, setK, setK0, setL, List.length_map, mJoin, mIndex, mCount, mGet, strsOf, intsOf, blsOf, Option.bind_some, intsD_map, strsD_map, blsD_map, Option.isSome_some, szl, Nat.reduceLeDiff, qEq_ii, qNe_ii, Bool.not_true, Bool.not_false, decT, decF, dDelT, dDisp, dPairs, dFld, dFldS, dMeth, dMake, dIEnum, dAugK, dNever, dListRev, dListRg1, dPar, dListZip, dForD, mSetd, dRaise, dCallX, dMethX, dMakeX, dTryOnly, dTryAs, wipeE, qIsE, clsVal, clsVals, PySem.W.kitAny, eq_self, true_and]
      exact ih _ _ ⟨ps ++ [Tm.app f ts], qs, lb, kvs, _, _, by rw [hps, List.append_assoc]; rfl, by rw [List.length_append]; rfl, rfl, rfl, hk.app⟩
  · rintro r M' ⟨ps, qs, lb, kvs, u, v, hps, hi, rfl, rfl, hk⟩
    have hqn : qs = [] := by cases qs with
      | nil => rfl
      | cons _ _ => cases hi
    subst hqn
    rw [List.append_nil] at hps
    subst hps
    refine ⟨ha2 _, ?_⟩
    dsimp only
    try simp only [dSeq, dAsg, dgName, dgTup, dgCons, dgNil, dgSub, dRet, dRetN, dIfS, dDrop, dNext, dBreak, dCont, dAug, dVar, dC, dBin, dTest, dChain, dTru, dNotT, dAndT, dOrT, dAndV, dOrV, dNotV, dIf, dNil, dCons, dTup, dLst, dNewDict, dNeg, dCB, dBM, dBM0, dCall, dYes,   dSl, dNoPart, dPart, qSl, dBack, qBack, dFor, dISeq, dIRng1, dIRng2, dIZip, dLc, dDc,   qAdd, qInt, qInt0, qSub, qMul, qDiv, qMod, qPow, qLt, qLe, qGt, qGe, qIs, qIsNot, qIx, qLen, qAbs, qMax, qMin, qSum, qAll, qAny, qInt_, qStr_, qList_, qTuple_, qDict_, qIsi, qSet, iAdd, iSub, iMul, iDiv, iMod,   mAppend, mExtend, mPop, truD, tyN, isTy, seqD, lstD, keyD, isNonD,   kit_ii, kit_bi, kit_si, kit_ti, kit_li, kit_di, kit_ni, kit_ib, kit_bb, kit_sb, kit_tb, kit_lb, kit_nb, kit_is, kit_ss, kit_ts, kit_ls, kit_ns, kit_it, kit_st, kit_tt, kit_lt, kit_nt, kit_il, kit_tl, kit_ll, kit_dl, kit_nl, kit_dd, kit_nd, kit_ld,   startD, wipeD, List.map_cons, List.map_nil, List.length_cons, List.length_nil, Nat.reduceAdd, Nat.reduceSub, List.replicate_succ, List.replicate_zero, List.cons_append, List.nil_append, List.getElem?_cons_zero, List.getElem?_cons_succ, List.set_cons_zero, List.set_cons_succ,   List.length_append, List.length_set, set_get, Option.map_some, List.set_set, atI_0, atI_1, atI_2, atI_3, atI_4, atI_5, atI_6, List.append_assoc, Nat.add_assoc, getK, getK0, getL, setK, setK0, setL, List.length_map, mJoin, mIndex, mCount, mGet, strsOf, intsOf, blsOf, Option.bind_some, intsD_map, strsD_map, blsD_map, Option.isSome_some, szl, Nat.reduceLeDiff, qEq_ii, qNe_ii, Bool.not_true, Bool.not_false, decT, decF, dDelT, dDisp, dPairs, dFld, dFldS, dMeth, dMake, dIEnum, dAugK, dNever, dListRev, dListRg1, dPar, dListZip, dForD, mSetd, dRaise, dCallX, dMethX, dMakeX, dTryOnly, dTryAs, wipeE, qIsE, clsVal, clsVals, PySem.W.kitAny, eq_self, true_and]
    refine Done.list hM (takeK rfl) (Nat.le_refl _) (getK0 rfl) ?_ (q lb hk.done)
    rw [okDs_iff]
    intro d hd
    obtain ⟨x, _, rfl⟩ := List.mem_map.mp hd
    rfl
end
section
variable {P : Program} {w : World} {K : PySem.W.Frag} {mg : Str → Option Value} {base : Heap}
theorem JntAt.append {M G : Mem} {n a b c : Nat} {P : List Tm} {F L : List Nat} (h : JntAt K M n a b c P F L) : JntAt K (M ++ G) n a b c P F L := by
  obtain ⟨h1, h2, h3, h4⟩ := h
  exact ⟨by rw [getL (List.getElem?_eq_some_iff.mp h1).1]; exact h1, by rw [getL (List.getElem?_eq_some_iff.mp h2).1]; exact h2, by rw [getL (List.getElem?_eq_some_iff.mp h3).1]; exact h3, by rw [getL (List.getElem?_eq_some_iff.mp h4).1]; exact h4⟩
theorem jnt_no {a b c : D} {m : Str} (h1 : (m == ("parts" : Str)) = false) (h2 : (m == ("_firsts" : Str)) = false) (h3 : (m == ("_links" : Str)) = false) : (jntF a b c).lookup m = none := jntF_no h1 h2 h3
theorem zip_inner (oa ob n : Nat) : ((natD ((List.range n).map fun k => oa + k)).zip (natD ((List.range n).map fun k => ob + k))).map (fun p => D.tup [p.1, p.2]) = ((List.range n).map fun k => (oa + k, ob + k)).map pairN := by
  unfold natD
  rw [List.map_map, List.map_map, List.zip_map', List.map_map, List.map_map]
  rfl
theorem natD_ok (n : Nat) (L : List Nat) : okDs n (natD L) = true := by
  rw [okDs_iff]
  intro d hd
  unfold natD at hd
  obtain ⟨x, _, rfl⟩ := List.mem_map.mp hd
  rfl
def sp_join : DSp := fun ds M Q _ => ∃ (n a b c : Nat) (s t : Tm) (P : List Tm) (F : List Nat), ds = [.loc n] ∧ JntAt K M n a b c P F (List.range P.length) ∧ n ≠ c ∧ a ≠ c ∧ b ≠ c ∧ Laid s t P F P.length ∧ P.length ≤ 2000 ∧ (∀ u ∈ P, u.Nm NameOk ∧ u.size ≤ 2000) ∧
  (∀ L, Joined s t P F [] L → Q (.bl true) (M.set c (.lst (natD L)))) ∧ ((∀ θ : Fl, s.fill θ ≠ t.fill θ) → ∀ L, Q (.bl false) (M.set c (.lst (natD L))))
theorem fn_join (T : Top K mg) : DMeth P w K mg base CX0 3 (He.ga K "Joint") "join_both" ["self"] (sp_join (K := K)) := by
  have F__alike_on_top := fn_top2 (P := P) (w := w) (base := base) T
  have F_Joint_top := fn_jtop (P := P) (w := w) (base := base) T
  have F_Joint_inner := fn_inner (P := P) (w := w) (base := base) T
  have F_Joint_like_blanks := fn_likes (P := P) (w := w) (base := base) T
  obtain ⟨fd, F⟩ := T.d_Joint_join_both
  have sc := sc_Joint_join_both
  refine DMeth.ofD (k := 2) F T.m_Joint_join_both T.c_Joint (FunD.bindsN F fun _ _ _ _ _ _ us hl => match us, hl with | [_], _ => rfl) sc ?len ⟨_, fun cdv A outer s H E m0 hr => (
      (dss_cons (ds_set 1 sc.nd (de_bin dop_add (de_meth0 F_Joint_like_blanks (hr.mono (by omega)) pass0 (de_var 0)) (de_lst (da_cons (de_tup (da_cons de_int (da_cons de_int da_nil))) da_nil))))
      (dss_cons (ds_while PassesOwn.never (dt_e (de_var 1)) (dss_cons (ds_asg (de_bm0 PySem.F.plainAttrs_list PySem.F.slot_list_pop PySem.F.type_list_pop dm_pop (de_var 1)) (dg_tup (n := 2) rfl (dgs_cons (dg_name 2 sc.nd) (dgs_cons (dg_name 3 sc.nd) dgs_nil))))
      (dss_cons (ds_par 2 3 rfl sc.nd (da_cons (de_meth F_Joint_top (hr.mono (by omega)) pass0 (de_var 0) (da_cons (de_var 2) da_nil)) (da_cons (de_meth F_Joint_top (hr.mono (by omega)) pass0 (de_var 0) (da_cons (de_var 3) da_nil)) da_nil)) rfl)
      (dss_cons (ds_if (dt_cmp (dop_eq hr) (de_var 2) (de_var 3)) (dss_one ds_cont) dss_nil)
      (dss_cons (ds_par 4 5 rfl sc.nd (da_cons (de_ix hr (de_fld T.c_Joint T.a_Joint_parts (de_var 0)) (de_var 2)) (da_cons (de_ix hr (de_fld T.c_Joint T.a_Joint_parts (de_var 0)) (de_var 3)) da_nil)) rfl)
      (dss_one (ds_if (dt_e (de_cb T.n_isinstance dc_isi b_isinstance (da_cons (de_var 4) (da_cons (de_ty T.n_int b_int) da_nil)))) (dss_one (ds_asg (de_var 3) (dg_sub hr (de_fld T.c_Joint T.a_Joint__links (de_var 0)) (de_var 2)))) (dss_one (ds_if (dt_e (de_cb T.n_isinstance dc_isi b_isinstance (da_cons (de_var 5) (da_cons (de_ty T.n_int b_int) da_nil)))) (dss_one (ds_asg (de_var 2) (dg_sub hr (de_fld T.c_Joint T.a_Joint__links (de_var 0)) (de_var 3)))) (dss_one (ds_if (dt_e (de_call F__alike_on_top (hr.mono (by omega)) pass0 (da_cons (de_var 4) (da_cons (de_var 5) da_nil)))) (dss_cons (ds_asg (de_var 3) (dg_sub hr (de_fld T.c_Joint T.a_Joint__links (de_var 0)) (de_var 2)))
      (dss_one (ds_expr (de_bm PySem.F.plainAttrs_list PySem.F.slot_list_extend PySem.F.type_list_extend dm_extend (de_var 1) (da_cons (de_listZip rfl T.n_list T.n_zip (da_cons (de_meth F_Joint_inner (hr.mono (by omega)) pass0 (de_var 0) (da_cons (de_var 2) da_nil)) (da_cons (de_meth F_Joint_inner (hr.mono (by omega)) pass0 (de_var 0) (da_cons (de_var 3) da_nil)) da_nil))) da_nil))))) (dss_one (ds_ret de_bl)))))))))))))
      (dss_one (ds_ret de_bl))))), ?_⟩
  case len =>
    rintro ds M Q E ⟨n, a, b, c, s, t, P, F, rfl, _⟩
    rfl
  rintro ds M Qd Ed ⟨n, a, b, c, s, t, P, F, rfl, hJ, h1, h2, h3, hl, hP, hu, qt, qf⟩ hM
  have hcl := (List.getElem?_eq_some_iff.mp hJ.2.2.2).1
  have hno1 : (jntF (.loc a) (.loc b) (.loc c)).lookup (Str.ofString "like_blanks") = none := jnt_no (by decide +kernel) (by decide +kernel) (by decide +kernel)
  have hno2 : (jntF (.loc a) (.loc b) (.loc c)).lookup (Str.ofString "top") = none := jnt_no (by decide +kernel) (by decide +kernel) (by decide +kernel)
  have hno3 : (jntF (.loc a) (.loc b) (.loc c)).lookup (Str.ofString "inner") = none := jnt_no (by decide +kernel) (by decide +kernel) (by decide +kernel)
  try simp only [dSeq, dAsg, dgName, dgTup, dgCons, dgNil, dgSub, dRet, dRetN, dIfS, dDrop, dNext, dBreak, dCont, dAug, dVar, dC, dBin, dTest, dChain, dTru, dNotT, dAndT, dOrT, dAndV, dOrV, dNotV, dIf, dNil, dCons, dTup, dLst, dNewDict, dNeg, dCB, dBM, dBM0, dCall, dYes,   dSl, dNoPart, dPart, qSl, dBack, qBack, dFor, dISeq, dIRng1, dIRng2, dIZip, dLc, dDc,   qAdd, qInt, qInt0, qSub, qMul, qDiv, qMod, qPow, qLt, qLe, qGt, qGe, qIs, qIsNot, qIx, qLen, qAbs, qMax, qMin, qSum, qAll, qAny, qInt_, qStr_, qList_, qTuple_, qDict_, qIsi, qSet, iAdd, iSub, iMul, iDiv, iMod,   mAppend, mExtend, mPop, truD, tyN, isTy, seqD, lstD, keyD, isNonD,   kit_ii, kit_bi, kit_si, kit_ti, kit_li, kit_di, kit_ni, kit_ib, kit_bb, kit_sb, kit_tb, kit_lb, kit_nb, kit_is, kit_ss, kit_ts, kit_ls, kit_ns, kit_it, kit_st, kit_tt, kit_lt, kit_nt, kit_il, kit_tl, kit_ll, kit_dl, kit_nl, kit_dd, kit_nd, kit_ld,   startD, wipeD, List.map_cons, List.map_nil, List.length_cons, List.length_nil, Nat.reduceAdd, Nat.reduceSub, List.replicate_succ, List.replicate_zero, List.cons_append, List.nil_append, List.getElem?_cons_zero, List.getElem?_cons_succ, List.set_cons_zero, List.set_cons_succ,   List.length_append, List.length_set, set_get, Option.map_some, List.set_set, atI_0, atI_1, atI_2, atI_3, atI_4, atI_5, atI_6, List.append_assoc, Nat.add_assoc, getK, getK0, getL, setK, setK0, setL, List.length_map, mJoin, mIndex, mCount, mGet, strsOf, intsOf, blsOf, Option.bind_some, intsD_map, strsD_map, blsD_map, Option.isSome_some, szl, Nat.reduceLeDiff, qEq_ii, qNe_ii, Bool.not_true, Bool.not_false, decT, decF, dDelT, dDisp, dPairs, dFld, dFldS, dMeth, dMake, dIEnum, dAugK, dNever, dListRev, dListRg1, dPar, dListZip, dForD, mSetd, dRaise, dCallX, dMethX, dMakeX, dTryOnly, dTryAs, wipeE, qIsE, clsVal, clsVals, PySem.W.kitAny, eq_self, true_and, hJ.1, hno1]
  refine ⟨n, a, b, c, P, F, _, rfl, hJ, by omega, fun lb hlb => ?_⟩
  have hlbl := hlb.len
  try simp only [dSeq, dAsg, dgName, dgTup, dgCons, dgNil, dgSub, dRet, dRetN, dIfS, dDrop, dNext, dBreak, dCont, dAug, dVar, dC, dBin, dTest, dChain, dTru, dNotT, dAndT, dOrT, dAndV, dOrV, dNotV, dIf, dNil, dCons, dTup, dLst, dNewDict, dNeg, dCB, dBM, dBM0, dCall, dYes,   dSl, dNoPart, dPart, qSl, dBack, qBack, dFor, dISeq, dIRng1, dIRng2, dIZip, dLc, dDc,   qAdd, qInt, qInt0, qSub, qMul, qDiv, qMod, qPow, qLt, qLe, qGt, qGe, qIs, qIsNot, qIx, qLen, qAbs, qMax, qMin, qSum, qAll, qAny, qInt_, qStr_, qList_, qTuple_, qDict_, qIsi, qSet, iAdd, iSub, iMul, iDiv, iMod,   mAppend, mExtend, mPop, truD, tyN, isTy, seqD, lstD, keyD, isNonD,   kit_ii, kit_bi, kit_si, kit_ti, kit_li, kit_di, kit_ni, kit_ib, kit_bb, kit_sb, kit_tb, kit_lb, kit_nb, kit_is, kit_ss, kit_ts, kit_ls, kit_ns, kit_it, kit_st, kit_tt, kit_lt, kit_nt, kit_il, kit_tl, kit_ll, kit_dl, kit_nl, kit_dd, kit_nd, kit_ld,   startD, wipeD, List.map_cons, List.map_nil, List.length_cons, List.length_nil, Nat.reduceAdd, Nat.reduceSub, List.replicate_succ, List.replicate_zero, List.cons_append, List.nil_append, List.getElem?_cons_zero, List.getElem?_cons_succ, List.set_cons_zero, List.set_cons_succ,   List.length_append, List.length_set, set_get, Option.map_some, List.set_set, atI_0, atI_1, atI_2, atI_3, atI_4, atI_5, atI_6, List.append_assoc, Nat.add_assoc, getK, getK0, getL, setK, setK0, setL, List.length_map, mJoin, mIndex, mCount, mGet, strsOf, intsOf, blsOf, Option.bind_some, intsD_map, strsD_map, blsD_map, Option.isSome_some, szl, Nat.reduceLeDiff, qEq_ii, qNe_ii, Bool.not_true, Bool.not_false, decT, decF, dDelT, dDisp, dPairs, dFld, dFldS, dMeth, dMake, dIEnum, dAugK, dNever, dListRev, dListRg1, dPar, dListZip, dForD, mSetd, dRaise, dCallX, dMethX, dMakeX, dTryOnly, dTryAs, wipeE, qIsE, clsVal, clsVals, PySem.W.kitAny, eq_self, true_and]
  refine ⟨by omega, ?_⟩
  have hML : M.set c (.lst (natD (List.range P.length))) = M := by
    refine List.ext_getElem? fun x => ?_
    by_cases h : c = x
    · subst h; rw [List.getElem?_set_self hcl, hJ.2.2.2]
    · rw [List.getElem?_set_ne h]
  refine while_ind (fun k r M' => ∃ (W : List (Nat × Nat)) (L : List Nat) (G : Mem) (u1 u2 u3 u4 : Option D), Joined s t P F W L ∧ k = tops L * 10000 + W.length ∧ W.length + tops L * 2000 ≤ 10000000 ∧ r = [some (D.loc n), some (D.loc (M.length + 2)), u1, u2, u3, u4] ∧
    M' = M.set c (.lst (natD L)) ++ ([.lst (lb.map pairN), .lst [pairN (0, 1)], .lst (W.map pairN)] ++ G)) _ ⟨lb ++ [(0, 1)], List.range P.length, [], none, none, none, none, .start hl hlb.sound hlb.all, rfl, ?_, rfl, ?_⟩ ?_
  · have h1 : tops (List.range P.length) ≤ P.length := by
      unfold tops
      have := List.countP_le_length (p := fun i => decide ((List.range P.length)[i]? = some i)) (l := List.range (List.range P.length).length)
      rw [List.length_range, List.length_range] at this
      rw [List.length_range]
      exact this
    rw [List.length_append, List.length_singleton]
    omega
  · rw [hML, List.map_append]
    rfl
  rintro k r M' ⟨W, L, G, u1, u2, u3, u4, hj, hk, hb, rfl, rfl⟩
  rcases List.eq_nil_or_concat W with rfl | ⟨W0, ⟨x, y⟩, rfl⟩
  · try simp only [dSeq, dAsg, dgName, dgTup, dgCons, dgNil, dgSub, dRet, dRetN, dIfS, dDrop, dNext, dBreak, dCont, dAug, dVar, dC, dBin, dTest, dChain, dTru, dNotT, dAndT, dOrT, dAndV, dOrV, dNotV, dIf, dNil, dCons, dTup, dLst, dNewDict, dNeg, dCB, dBM, dBM0, dCall, dYes,   dSl, dNoPart, dPart, qSl, dBack, qBack, dFor, dISeq, dIRng1, dIRng2, dIZip, dLc, dDc,   qAdd, qInt, qInt0, qSub, qMul, qDiv, qMod, qPow, qLt, qLe, qGt, qGe, qIs, qIsNot, qIx, qLen, qAbs, qMax, qMin, qSum, qAll, qAny, qInt_, qStr_, qList_, qTuple_, qDict_, qIsi, qSet, iAdd, iSub, iMul, iDiv, iMod,   mAppend, mExtend, mPop, truD, tyN, isTy, seqD, lstD, keyD, isNonD,   kit_ii, kit_bi, kit_si, kit_ti, kit_li, kit_di, kit_ni, kit_ib, kit_bb, kit_sb, kit_tb, kit_lb, kit_nb, kit_is, kit_ss, kit_ts, kit_ls, kit_ns, kit_it, kit_st, kit_tt, kit_lt, kit_nt, kit_il, kit_tl, kit_ll, kit_dl, kit_nl, kit_dd, kit_nd, kit_ld,   startD, wipeD, List.map_cons, List.map_nil, List.length_cons, List.length_nil, Nat.reduceAdd, Nat.reduceSub, List.replicate_succ, List.replicate_zero, List.cons_append, List.nil_append, List.getElem?_cons_zero, List.getElem?_cons_succ, List.set_cons_zero, List.set_cons_succ,   List.length_append, List.length_set, set_get, Option.map_some, List.set_set, atI_0, atI_1, atI_2, atI_3, atI_4, atI_5, atI_6, List.append_assoc, Nat.add_assoc, getK, getK0, getL, setK, setK0, setL, List.length_map, mJoin, mIndex, mCount, mGet, strsOf, intsOf, blsOf, Option.bind_some, intsD_map, strsD_map, blsD_map, Option.isSome_some, szl, Nat.reduceLeDiff, qEq_ii, qNe_ii, Bool.not_true, Bool.not_false, decT, decF, dDelT, dDisp, dPairs, dFld, dFldS, dMeth, dMake, dIEnum, dAugK, dNever, dListRev, dListRg1, dPar, dListZip, dForD, mSetd, dRaise, dCallX, dMethX, dMakeX, dTryOnly, dTryAs, wipeE, qIsE, clsVal, clsVals, PySem.W.kitAny, eq_self, true_and, List.map_nil, List.isEmpty_nil, Bool.not_true]
    refine Done.old (okM_set hM ?_) (takeK (by simp)) rfl (qt L hj)
    exact natD_ok _ _
  · rw [List.concat_eq_append] at *
    have e1 : ((W0 ++ [(x, y)]).map pairN).isEmpty = false := by simp
    have e2 : ((W0 ++ [(x, y)]).map pairN)[W0.length + 1 - 1]? = some (.tup [.int (x : Nat), .int (y : Nat)]) := by simp [pairN]
    have e3 : ((W0 ++ [(x, y)]).map pairN).dropLast = W0.map pairN := by simp
    have hbn := hj.bound (x, y) (by simp)
    obtain ⟨d1, ra, k1⟩ := hj.root.2 x hbn.1
    obtain ⟨d2, rb, k2⟩ := hj.root.2 y hbn.2
    have hLl := hj.root.1
    have hJ1 : ∀ (L : List Nat) (G : Mem), JntAt K (M.set c (.lst (natD L)) ++ G) n a b c P F L := fun L G => (hJ.links h1 h2 h3 L).append
    try simp only [dSeq, dAsg, dgName, dgTup, dgCons, dgNil, dgSub, dRet, dRetN, dIfS, dDrop, dNext, dBreak, dCont, dAug, dVar, dC, dBin, dTest, dChain, dTru, dNotT, dAndT, dOrT, dAndV, dOrV, dNotV, dIf, dNil, dCons, dTup, dLst, dNewDict, dNeg, dCB, dBM, dBM0, dCall, dYes,   dSl, dNoPart, dPart, qSl, dBack, qBack, dFor, dISeq, dIRng1, dIRng2, dIZip, dLc, dDc,   qAdd, qInt, qInt0, qSub, qMul, qDiv, qMod, qPow, qLt, qLe, qGt, qGe, qIs, qIsNot, qIx, qLen, qAbs, qMax, qMin, qSum, qAll, qAny, qInt_, qStr_, qList_, qTuple_, qDict_, qIsi, qSet, iAdd, iSub, iMul, iDiv, iMod,   mAppend, mExtend, mPop, truD, tyN, isTy, seqD, lstD, keyD, isNonD,   kit_ii, kit_bi, kit_si, kit_ti, kit_li, kit_di, kit_ni, kit_ib, kit_bb, kit_sb, kit_tb, kit_lb, kit_nb, kit_is, kit_ss, kit_ts, kit_ls, kit_ns, kit_it, kit_st, kit_tt, kit_lt, kit_nt, kit_il, kit_tl, kit_ll, kit_dl, kit_nl, kit_dd, kit_nd, kit_ld,   startD, wipeD, List.map_cons, List.map_nil, List.length_cons, List.length_nil, Nat.reduceAdd, Nat.reduceSub, List.replicate_succ, List.replicate_zero, List.cons_append, List.nil_append, List.getElem?_cons_zero, List.getElem?_cons_succ, List.set_cons_zero, List.set_cons_succ,   List.length_append, List.length_set, set_get, Option.map_some, List.set_set, atI_0, atI_1, atI_2, atI_3, atI_4, atI_5, atI_6, List.append_assoc, Nat.add_assoc, getK, getK0, getL, setK, setK0, setL, List.length_map, mJoin, mIndex, mCount, mGet, strsOf, intsOf, blsOf, Option.bind_some, intsD_map, strsD_map, blsD_map, Option.isSome_some, szl, Nat.reduceLeDiff, qEq_ii, qNe_ii, Bool.not_true, Bool.not_false, decT, decF, dDelT, dDisp, dPairs, dFld, dFldS, dMeth, dMake, dIEnum, dAugK, dNever, dListRev, dListRg1, dPar, dListZip, dForD, mSetd, dRaise, dCallX, dMethX, dMakeX, dTryOnly, dTryAs, wipeE, qIsE, clsVal, clsVals, PySem.W.kitAny, eq_self, true_and, e1, e2, e3, Bool.not_false, (hJ1 _ _).1, hno2]
    refine ⟨n, a, b, c, x, ra, d1, P, F, L, rfl, hJ1 _ _, h1, h2, h3, by omega, k1, fun L1 hL1 => ?_⟩
    have hj1 := hj.same hL1
    obtain ⟨d2', _, k2'⟩ := hL1.2 _ _ _ k2
    obtain ⟨d1', _, k1'⟩ := hL1.2 _ _ _ k1
    have hset : ∀ (L L' : List Nat) (G : Mem), (M.set c (.lst (natD L)) ++ G).set c (.lst (natD L')) = M.set c (.lst (natD L')) ++ G := fun L L' G => by
      rw [setL (by simpa using hcl), List.set_set]
    rw [hset]
    try simp only [dSeq, dAsg, dgName, dgTup, dgCons, dgNil, dgSub, dRet, dRetN, dIfS, dDrop, dNext, dBreak, dCont, dAug, dVar, dC, dBin, dTest, dChain, dTru, dNotT, dAndT, dOrT, dAndV, dOrV, dNotV, dIf, dNil, dCons, dTup, dLst, dNewDict, dNeg, dCB, dBM, dBM0, dCall, dYes,   dSl, dNoPart, dPart, qSl, dBack, qBack, dFor, dISeq, dIRng1, dIRng2, dIZip, dLc, dDc,   qAdd, qInt, qInt0, qSub, qMul, qDiv, qMod, qPow, qLt, qLe, qGt, qGe, qIs, qIsNot, qIx, qLen, qAbs, qMax, qMin, qSum, qAll, qAny, qInt_, qStr_, qList_, qTuple_, qDict_, qIsi, qSet, iAdd, iSub, iMul, iDiv, iMod,   mAppend, mExtend, mPop, truD, tyN, isTy, seqD, lstD, keyD, isNonD,   kit_ii, kit_bi, kit_si, kit_ti, kit_li, kit_di, kit_ni, kit_ib, kit_bb, kit_sb, kit_tb, kit_lb, kit_nb, kit_is, kit_ss, kit_ts, kit_ls, kit_ns, kit_it, kit_st, kit_tt, kit_lt, kit_nt, kit_il, kit_tl, kit_ll, kit_dl, kit_nl, kit_dd, kit_nd, kit_ld,   startD, wipeD, List.map_cons, List.map_nil, List.length_cons, List.length_nil, Nat.reduceAdd, Nat.reduceSub, List.replicate_succ, List.replicate_zero, List.cons_append, List.nil_append, List.getElem?_cons_zero, List.getElem?_cons_succ, List.set_cons_zero, List.set_cons_succ,   List.length_append, List.length_set, set_get, Option.map_some, List.set_set, atI_0, atI_1, atI_2, atI_3, atI_4, atI_5, atI_6, List.append_assoc, Nat.add_assoc, getK, getK0, getL, setK, setK0, setL, List.length_map, mJoin, mIndex, mCount, mGet, strsOf, intsOf, blsOf, Option.bind_some, intsD_map, strsD_map, blsD_map, Option.isSome_some, szl, Nat.reduceLeDiff, qEq_ii, qNe_ii, Bool.not_true, Bool.not_false, decT, decF, dDelT, dDisp, dPairs, dFld, dFldS, dMeth, dMake, dIEnum, dAugK, dNever, dListRev, dListRg1, dPar, dListZip, dForD, mSetd, dRaise, dCallX, dMethX, dMakeX, dTryOnly, dTryAs, wipeE, qIsE, clsVal, clsVals, PySem.W.kitAny, eq_self, true_and, (hJ1 _ _).1, hno2]
    refine ⟨n, a, b, c, y, rb, d2', P, F, L1, rfl, hJ1 _ _, h1, h2, h3, by rw [hj1.root.1]; omega, k2', fun L2 hL2 => ?_⟩
    rw [hset]
    have hj2 := hj1.same hL2
    obtain ⟨d3, _, k3⟩ := hL2.2 _ _ _ k1'
    obtain ⟨d4, _, k4⟩ := hL2.2 _ _ _ k2'
    have t1 := tops_same hj.root hL1
    have t2 := tops_same hj1.root hL2
    rw [List.length_append, List.length_singleton] at hk hb
    have rtop : L2[ra]? = some ra := k3.top
    have stop : L2[rb]? = some rb := k4.top
    have hral : ra < P.length := by have := (List.getElem?_eq_some_iff.mp rtop).1; rw [hj2.root.1] at this; exact this
    have hrbl : rb < P.length := by have := (List.getElem?_eq_some_iff.mp stop).1; rw [hj2.root.1] at this; exact this
    by_cases e : ra = rb
    · subst e
      have de : decide ((ra : Int) = (ra : Int)) = true := decide_eq_true rfl
      try simp only [dSeq, dAsg, dgName, dgTup, dgCons, dgNil, dgSub, dRet, dRetN, dIfS, dDrop, dNext, dBreak, dCont, dAug, dVar, dC, dBin, dTest, dChain, dTru, dNotT, dAndT, dOrT, dAndV, dOrV, dNotV, dIf, dNil, dCons, dTup, dLst, dNewDict, dNeg, dCB, dBM, dBM0, dCall, dYes,   dSl, dNoPart, dPart, qSl, dBack, qBack, dFor, dISeq, dIRng1, dIRng2, dIZip, dLc, dDc,   qAdd, qInt, qInt0, qSub, qMul, qDiv, qMod, qPow, qLt, qLe, qGt, qGe, qIs, qIsNot, qIx, qLen, qAbs, qMax, qMin, qSum, qAll, qAny, qInt_, qStr_, qList_, qTuple_, qDict_, qIsi, qSet, iAdd, iSub, iMul, iDiv, iMod,   mAppend, mExtend, mPop, truD, tyN, isTy, seqD, lstD, keyD, isNonD,   kit_ii, kit_bi, kit_si, kit_ti, kit_li, kit_di, kit_ni, kit_ib, kit_bb, kit_sb, kit_tb, kit_lb, kit_nb, kit_is, kit_ss, kit_ts, kit_ls, kit_ns, kit_it, kit_st, kit_tt, kit_lt, kit_nt, kit_il, kit_tl, kit_ll, kit_dl, kit_nl, kit_dd, kit_nd, kit_ld,   startD, wipeD, List.map_cons, List.map_nil, List.length_cons, List.length_nil, Nat.reduceAdd, Nat.reduceSub, List.replicate_succ, List.replicate_zero, List.cons_append, List.nil_append, List.getElem?_cons_zero, List.getElem?_cons_succ, List.set_cons_zero, List.set_cons_succ,   List.length_append, List.length_set, set_get, Option.map_some, List.set_set, atI_0, atI_1, atI_2, atI_3, atI_4, atI_5, atI_6, List.append_assoc, Nat.add_assoc, getK, getK0, getL, setK, setK0, setL, List.length_map, mJoin, mIndex, mCount, mGet, strsOf, intsOf, blsOf, Option.bind_some, intsD_map, strsD_map, blsD_map, Option.isSome_some, szl, Nat.reduceLeDiff, qEq_ii, qNe_ii, Bool.not_true, Bool.not_false, decT, decF, dDelT, dDisp, dPairs, dFld, dFldS, dMeth, dMake, dIEnum, dAugK, dNever, dListRev, dListRg1, dPar, dListZip, dForD, mSetd, dRaise, dCallX, dMethX, dMakeX, dTryOnly, dTryAs, wipeE, qIsE, clsVal, clsVals, PySem.W.kitAny, eq_self, true_and, de]
      exact ⟨_, by omega, W0, L2, G, _, _, _, _, hj2.pop ⟨d3, d4, ra, k3, k4⟩, rfl, by omega, rfl, rfl⟩
    · have de : decide ((ra : Int) = (rb : Int)) = false := decide_eq_false (by omega)
      obtain ⟨pa, hpa⟩ : ∃ u, P[ra]? = some u := ⟨_, List.getElem?_eq_getElem hral⟩
      obtain ⟨pb, hpb⟩ : ∃ u, P[rb]? = some u := ⟨_, List.getElem?_eq_getElem hrbl⟩
      have f1 : atI (List.map Tm.d P) (ra : Int) = some pa.d := atI_nat (by rw [List.getElem?_map, hpa]; rfl)
      have f2 : atI (List.map Tm.d P) (rb : Int) = some pb.d := atI_nat (by rw [List.getElem?_map, hpb]; rfl)
      have hI1 : ixN (natD L2).length (ra : Int) = some ra := ixN_nat (by rw [natD_len, hj2.root.1]; exact hral)
      have hI2 : ixN (natD L2).length (rb : Int) = some rb := ixN_nat (by rw [natD_len, hj2.root.1]; exact hrbl)
      have l1 := tops_link rtop stop (Ne.symm e)
      have l2 := tops_link stop rtop e
      cases pa with
      | var i =>
        rw [Tm.d_var] at f1
        try simp only [dSeq, dAsg, dgName, dgTup, dgCons, dgNil, dgSub, dRet, dRetN, dIfS, dDrop, dNext, dBreak, dCont, dAug, dVar, dC, dBin, dTest, dChain, dTru, dNotT, dAndT, dOrT, dAndV, dOrV, dNotV, dIf, dNil, dCons, dTup, dLst, dNewDict, dNeg, dCB, dBM, dBM0, dCall, dYes,   dSl, dNoPart, dPart, qSl, dBack, qBack, dFor, dISeq, dIRng1, dIRng2, dIZip, dLc, dDc,   qAdd, qInt, qInt0, qSub, qMul, qDiv, qMod, qPow, qLt, qLe, qGt, qGe, qIs, qIsNot, qIx, qLen, qAbs, qMax, qMin, qSum, qAll, qAny, qInt_, qStr_, qList_, qTuple_, qDict_, qIsi, qSet, iAdd, iSub, iMul, iDiv, iMod,   mAppend, mExtend, mPop, truD, tyN, isTy, seqD, lstD, keyD, isNonD,   kit_ii, kit_bi, kit_si, kit_ti, kit_li, kit_di, kit_ni, kit_ib, kit_bb, kit_sb, kit_tb, kit_lb, kit_nb, kit_is, kit_ss, kit_ts, kit_ls, kit_ns, kit_it, kit_st, kit_tt, kit_lt, kit_nt, kit_il, kit_tl, kit_ll, kit_dl, kit_nl, kit_dd, kit_nd, kit_ld,   startD, wipeD, List.map_cons, List.map_nil, List.length_cons, List.length_nil, Nat.reduceAdd, Nat.reduceSub, List.replicate_succ, List.replicate_zero, List.cons_append, List.nil_append, List.getElem?_cons_zero, List.getElem?_cons_succ, List.set_cons_zero, List.set_cons_succ,   List.length_append, List.length_set, set_get, Option.map_some, List.set_set, atI_0, atI_1, atI_2, atI_3, atI_4, atI_5, atI_6, List.append_assoc, Nat.add_assoc, getK, getK0, getL, setK, setK0, setL, List.length_map, mJoin, mIndex, mCount, mGet, strsOf, intsOf, blsOf, Option.bind_some, intsD_map, strsD_map, blsD_map, Option.isSome_some, szl, Nat.reduceLeDiff, qEq_ii, qNe_ii, Bool.not_true, Bool.not_false, decT, decF, dDelT, dDisp, dPairs, dFld, dFldS, dMeth, dMake, dIEnum, dAugK, dNever, dListRev, dListRg1, dPar, dListZip, dForD, mSetd, dRaise, dCallX, dMethX, dMakeX, dTryOnly, dTryAs, wipeE, qIsE, clsVal, clsVals, PySem.W.kitAny, eq_self, true_and, de, (hJ1 _ _).1, (hJ1 _ _).2.1, (hJ1 _ _).2.2.2, jntF_1, jntF_2, jntF_3, f1, f2, hI1, hI2, natD_set, hset]
        exact ⟨_, by omega, W0, L2.set ra rb, G, _, _, _, _, hj2.var k3 k4 (Ne.symm e) hpa, rfl, by omega, rfl, rfl⟩
      | app f ts =>
        rw [Tm.d_app] at f1
        cases pb with
        | var i =>
          rw [Tm.d_var] at f2
          try simp only [dSeq, dAsg, dgName, dgTup, dgCons, dgNil, dgSub, dRet, dRetN, dIfS, dDrop, dNext, dBreak, dCont, dAug, dVar, dC, dBin, dTest, dChain, dTru, dNotT, dAndT, dOrT, dAndV, dOrV, dNotV, dIf, dNil, dCons, dTup, dLst, dNewDict, dNeg, dCB, dBM, dBM0, dCall, dYes,   dSl, dNoPart, dPart, qSl, dBack, qBack, dFor, dISeq, dIRng1, dIRng2, dIZip, dLc, dDc,   qAdd, qInt, qInt0, qSub, qMul, qDiv, qMod, qPow, qLt, qLe, qGt, qGe, qIs, qIsNot, qIx, qLen, qAbs, qMax, qMin, qSum, qAll, qAny, qInt_, qStr_, qList_, qTuple_, qDict_, qIsi, qSet, iAdd, iSub, iMul, iDiv, iMod,   mAppend, mExtend, mPop, truD, tyN, isTy, seqD, lstD, keyD, isNonD,   kit_ii, kit_bi, kit_si, kit_ti, kit_li, kit_di, kit_ni, kit_ib, kit_bb, kit_sb, kit_tb, kit_lb, kit_nb, kit_is, kit_ss, kit_ts, kit_ls, kit_ns, kit_it, kit_st, kit_tt, kit_lt, kit_nt, kit_il, kit_tl, kit_ll, kit_dl, kit_nl, kit_dd, kit_nd, kit_ld,   startD, wipeD, List.map_cons, List.map_nil, List.length_cons, List.length_nil, Nat.reduceAdd, Nat.reduceSub, List.replicate_succ, List.replicate_zero, List.cons_append, List.nil_append, List.getElem?_cons_zero, List.getElem?_cons_succ, List.set_cons_zero, List.set_cons_succ,   List.length_append, List.length_set, set_get, Option.map_some, List.set_set, atI_0, atI_1, atI_2, atI_3, atI_4, atI_5, atI_6, List.append_assoc, Nat.add_assoc, getK, getK0, getL, setK, setK0, setL, List.length_map, mJoin, mIndex, mCount, mGet, strsOf, intsOf, blsOf, Option.bind_some, intsD_map, strsD_map, blsD_map, Option.isSome_some, szl, Nat.reduceLeDiff, qEq_ii, qNe_ii, Bool.not_true, Bool.not_false, decT, decF, dDelT, dDisp, dPairs, dFld, dFldS, dMeth, dMake, dIEnum, dAugK, dNever, dListRev, dListRg1, dPar, dListZip, dForD, mSetd, dRaise, dCallX, dMethX, dMakeX, dTryOnly, dTryAs, wipeE, qIsE, clsVal, clsVals, PySem.W.kitAny, eq_self, true_and, de, (hJ1 _ _).1, (hJ1 _ _).2.1, (hJ1 _ _).2.2.2, jntF_1, jntF_2, jntF_3, f1, f2, hI1, hI2, natD_set, hset]
          exact ⟨_, by omega, W0, L2.set rb ra, G, _, _, _, _, hj2.swap.var k4 k3 e hpb, rfl, by omega, rfl, rfl⟩
        | app g us =>
          rw [Tm.d_app] at f2
          try simp only [dSeq, dAsg, dgName, dgTup, dgCons, dgNil, dgSub, dRet, dRetN, dIfS, dDrop, dNext, dBreak, dCont, dAug, dVar, dC, dBin, dTest, dChain, dTru, dNotT, dAndT, dOrT, dAndV, dOrV, dNotV, dIf, dNil, dCons, dTup, dLst, dNewDict, dNeg, dCB, dBM, dBM0, dCall, dYes,   dSl, dNoPart, dPart, qSl, dBack, qBack, dFor, dISeq, dIRng1, dIRng2, dIZip, dLc, dDc,   qAdd, qInt, qInt0, qSub, qMul, qDiv, qMod, qPow, qLt, qLe, qGt, qGe, qIs, qIsNot, qIx, qLen, qAbs, qMax, qMin, qSum, qAll, qAny, qInt_, qStr_, qList_, qTuple_, qDict_, qIsi, qSet, iAdd, iSub, iMul, iDiv, iMod,   mAppend, mExtend, mPop, truD, tyN, isTy, seqD, lstD, keyD, isNonD,   kit_ii, kit_bi, kit_si, kit_ti, kit_li, kit_di, kit_ni, kit_ib, kit_bb, kit_sb, kit_tb, kit_lb, kit_nb, kit_is, kit_ss, kit_ts, kit_ls, kit_ns, kit_it, kit_st, kit_tt, kit_lt, kit_nt, kit_il, kit_tl, kit_ll, kit_dl, kit_nl, kit_dd, kit_nd, kit_ld,   startD, wipeD, List.map_cons, List.map_nil, List.length_cons, List.length_nil, Nat.reduceAdd, Nat.reduceSub, List.replicate_succ, List.replicate_zero, List.cons_append, List.nil_append, List.getElem?_cons_zero, List.getElem?_cons_succ, List.set_cons_zero, List.set_cons_succ,   List.length_append, List.length_set, set_get, Option.map_some, List.set_set, atI_0, atI_1, atI_2, atI_3, atI_4, atI_5, atI_6, List.append_assoc, Nat.add_assoc, getK, getK0, getL, setK, setK0, setL, List.length_map, mJoin, mIndex, mCount, mGet, strsOf, intsOf, blsOf, Option.bind_some, intsD_map, strsD_map, blsD_map, Option.isSome_some, szl, Nat.reduceLeDiff, qEq_ii, qNe_ii, Bool.not_true, Bool.not_false, decT, decF, dDelT, dDisp, dPairs, dFld, dFldS, dMeth, dMake, dIEnum, dAugK, dNever, dListRev, dListRg1, dPar, dListZip, dForD, mSetd, dRaise, dCallX, dMethX, dMakeX, dTryOnly, dTryAs, wipeE, qIsE, clsVal, clsVals, PySem.W.kitAny, eq_self, true_and, de, (hJ1 _ _).1, (hJ1 _ _).2.1, (hJ1 _ _).2.2.2, jntF_1, jntF_2, jntF_3, f1, f2, hI1, hI2, natD_set, hset]
          have hua := hu _ (List.mem_of_getElem? hpa)
          have hub := hu _ (List.mem_of_getElem? hpb)
          have hsa := hua.2
          have hsb := hub.2
          rw [Tm.size_app] at hsa hsb
          have hta := Tm.len_sizes ts
          have htb := Tm.len_sizes us
          refine ⟨f, g, ts, us, by rw [Tm.d_app, Tm.d_app], hua.1.hd, hub.1.hd, by omega, by omega, ?_⟩
          by_cases hal : f = g ∧ ts.length = us.length
          · obtain ⟨rfl, hlen⟩ := hal
            rw [decide_eq_true rfl, decide_eq_true hlen, Bool.true_and]
            obtain ⟨oa, hoa, _, _, la, _⟩ := hl.at_ ra hral _ hpa
            obtain ⟨ob, hob, _, _, lb', _⟩ := hl.at_ rb hrbl _ hpb
            try simp only [dSeq, dAsg, dgName, dgTup, dgCons, dgNil, dgSub, dRet, dRetN, dIfS, dDrop, dNext, dBreak, dCont, dAug, dVar, dC, dBin, dTest, dChain, dTru, dNotT, dAndT, dOrT, dAndV, dOrV, dNotV, dIf, dNil, dCons, dTup, dLst, dNewDict, dNeg, dCB, dBM, dBM0, dCall, dYes,   dSl, dNoPart, dPart, qSl, dBack, qBack, dFor, dISeq, dIRng1, dIRng2, dIZip, dLc, dDc,   qAdd, qInt, qInt0, qSub, qMul, qDiv, qMod, qPow, qLt, qLe, qGt, qGe, qIs, qIsNot, qIx, qLen, qAbs, qMax, qMin, qSum, qAll, qAny, qInt_, qStr_, qList_, qTuple_, qDict_, qIsi, qSet, iAdd, iSub, iMul, iDiv, iMod,   mAppend, mExtend, mPop, truD, tyN, isTy, seqD, lstD, keyD, isNonD,   kit_ii, kit_bi, kit_si, kit_ti, kit_li, kit_di, kit_ni, kit_ib, kit_bb, kit_sb, kit_tb, kit_lb, kit_nb, kit_is, kit_ss, kit_ts, kit_ls, kit_ns, kit_it, kit_st, kit_tt, kit_lt, kit_nt, kit_il, kit_tl, kit_ll, kit_dl, kit_nl, kit_dd, kit_nd, kit_ld,   startD, wipeD, List.map_cons, List.map_nil, List.length_cons, List.length_nil, Nat.reduceAdd, Nat.reduceSub, List.replicate_succ, List.replicate_zero, List.cons_append, List.nil_append, List.getElem?_cons_zero, List.getElem?_cons_succ, List.set_cons_zero, List.set_cons_succ,   List.length_append, List.length_set, set_get, Option.map_some, List.set_set, atI_0, atI_1, atI_2, atI_3, atI_4, atI_5, atI_6, List.append_assoc, Nat.add_assoc, getK, getK0, getL, setK, setK0, setL, List.length_map, mJoin, mIndex, mCount, mGet, strsOf, intsOf, blsOf, Option.bind_some, intsD_map, strsD_map, blsD_map, Option.isSome_some, szl, Nat.reduceLeDiff, qEq_ii, qNe_ii, Bool.not_true, Bool.not_false, decT, decF, dDelT, dDisp, dPairs, dFld, dFldS, dMeth, dMake, dIEnum, dAugK, dNever, dListRev, dListRg1, dPar, dListZip, dForD, mSetd, dRaise, dCallX, dMethX, dMakeX, dTryOnly, dTryAs, wipeE, qIsE, clsVal, clsVals, PySem.W.kitAny, eq_self, true_and, de, (hJ1 _ _).1, (hJ1 _ _).2.1, (hJ1 _ _).2.2.2, jntF_1, jntF_2, jntF_3, f1, f2, hI1, hI2, natD_set, hset, hno3]
            refine ⟨n, a, b, c, ra, oa, P, F, _, _, rfl, hJ1 _ _, hpa, hoa, by have := hua.2; omega, by omega, ?_⟩
            try simp only [dSeq, dAsg, dgName, dgTup, dgCons, dgNil, dgSub, dRet, dRetN, dIfS, dDrop, dNext, dBreak, dCont, dAug, dVar, dC, dBin, dTest, dChain, dTru, dNotT, dAndT, dOrT, dAndV, dOrV, dNotV, dIf, dNil, dCons, dTup, dLst, dNewDict, dNeg, dCB, dBM, dBM0, dCall, dYes,   dSl, dNoPart, dPart, qSl, dBack, qBack, dFor, dISeq, dIRng1, dIRng2, dIZip, dLc, dDc,   qAdd, qInt, qInt0, qSub, qMul, qDiv, qMod, qPow, qLt, qLe, qGt, qGe, qIs, qIsNot, qIx, qLen, qAbs, qMax, qMin, qSum, qAll, qAny, qInt_, qStr_, qList_, qTuple_, qDict_, qIsi, qSet, iAdd, iSub, iMul, iDiv, iMod,   mAppend, mExtend, mPop, truD, tyN, isTy, seqD, lstD, keyD, isNonD,   kit_ii, kit_bi, kit_si, kit_ti, kit_li, kit_di, kit_ni, kit_ib, kit_bb, kit_sb, kit_tb, kit_lb, kit_nb, kit_is, kit_ss, kit_ts, kit_ls, kit_ns, kit_it, kit_st, kit_tt, kit_lt, kit_nt, kit_il, kit_tl, kit_ll, kit_dl, kit_nl, kit_dd, kit_nd, kit_ld,   startD, wipeD, List.map_cons, List.map_nil, List.length_cons, List.length_nil, Nat.reduceAdd, Nat.reduceSub, List.replicate_succ, List.replicate_zero, List.cons_append, List.nil_append, List.getElem?_cons_zero, List.getElem?_cons_succ, List.set_cons_zero, List.set_cons_succ,   List.length_append, List.length_set, set_get, Option.map_some, List.set_set, atI_0, atI_1, atI_2, atI_3, atI_4, atI_5, atI_6, List.append_assoc, Nat.add_assoc, getK, getK0, getL, setK, setK0, setL, List.length_map, mJoin, mIndex, mCount, mGet, strsOf, intsOf, blsOf, Option.bind_some, intsD_map, strsD_map, blsD_map, Option.isSome_some, szl, Nat.reduceLeDiff, qEq_ii, qNe_ii, Bool.not_true, Bool.not_false, decT, decF, dDelT, dDisp, dPairs, dFld, dFldS, dMeth, dMake, dIEnum, dAugK, dNever, dListRev, dListRg1, dPar, dListZip, dForD, mSetd, dRaise, dCallX, dMethX, dMakeX, dTryOnly, dTryAs, wipeE, qIsE, clsVal, clsVals, PySem.W.kitAny, eq_self, true_and, (hJ1 _ _).1, hno3]
            refine ⟨n, a, b, c, rb, ob, P, F, _, _, rfl, hJ1 _ _, hpb, hob, by have := hub.2; omega, by omega, ?_⟩
            have pa : (Tm.app f ts).parts = ts := rfl
            have pb : (Tm.app f us).parts = us := rfl
            rw [pa, pb, ← hlen]
            have hz : (W0 ++ (List.range ts.length).map fun k => (oa + k, ob + k)).length = W0.length + ts.length := by simp
            try simp only [dSeq, dAsg, dgName, dgTup, dgCons, dgNil, dgSub, dRet, dRetN, dIfS, dDrop, dNext, dBreak, dCont, dAug, dVar, dC, dBin, dTest, dChain, dTru, dNotT, dAndT, dOrT, dAndV, dOrV, dNotV, dIf, dNil, dCons, dTup, dLst, dNewDict, dNeg, dCB, dBM, dBM0, dCall, dYes,   dSl, dNoPart, dPart, qSl, dBack, qBack, dFor, dISeq, dIRng1, dIRng2, dIZip, dLc, dDc,   qAdd, qInt, qInt0, qSub, qMul, qDiv, qMod, qPow, qLt, qLe, qGt, qGe, qIs, qIsNot, qIx, qLen, qAbs, qMax, qMin, qSum, qAll, qAny, qInt_, qStr_, qList_, qTuple_, qDict_, qIsi, qSet, iAdd, iSub, iMul, iDiv, iMod,   mAppend, mExtend, mPop, truD, tyN, isTy, seqD, lstD, keyD, isNonD,   kit_ii, kit_bi, kit_si, kit_ti, kit_li, kit_di, kit_ni, kit_ib, kit_bb, kit_sb, kit_tb, kit_lb, kit_nb, kit_is, kit_ss, kit_ts, kit_ls, kit_ns, kit_it, kit_st, kit_tt, kit_lt, kit_nt, kit_il, kit_tl, kit_ll, kit_dl, kit_nl, kit_dd, kit_nd, kit_ld,   startD, wipeD, List.map_cons, List.map_nil, List.length_cons, List.length_nil, Nat.reduceAdd, Nat.reduceSub, List.replicate_succ, List.replicate_zero, List.cons_append, List.nil_append, List.getElem?_cons_zero, List.getElem?_cons_succ, List.set_cons_zero, List.set_cons_succ,   List.length_append, List.length_set, set_get, Option.map_some, List.set_set, atI_0, atI_1, atI_2, atI_3, atI_4, atI_5, atI_6, List.append_assoc, Nat.add_assoc, getK, getK0, getL, setK, setK0, setL, List.length_map, mJoin, mIndex, mCount, mGet, strsOf, intsOf, blsOf, Option.bind_some, intsD_map, strsD_map, blsD_map, Option.isSome_some, szl, Nat.reduceLeDiff, qEq_ii, qNe_ii, Bool.not_true, Bool.not_false, decT, decF, dDelT, dDisp, dPairs, dFld, dFldS, dMeth, dMake, dIEnum, dAugK, dNever, dListRev, dListRg1, dPar, dListZip, dForD, mSetd, dRaise, dCallX, dMethX, dMakeX, dTryOnly, dTryAs, wipeE, qIsE, clsVal, clsVals, PySem.W.kitAny, eq_self, true_and, zip_inner, List.length_map, List.length_range]
            refine ⟨by omega, _, ?_, W0 ++ (List.range ts.length).map fun k => (oa + k, ob + k), L2.set ra rb, G ++ [MO.lst (natD ((List.range ts.length).map fun k => oa + k)), MO.lst (natD ((List.range ts.length).map fun k => ob + k)), MO.lst (((List.range ts.length).map fun k => (oa + k, ob + k)).map pairN)], some (D.int (ra : Nat)), some (D.int (rb : Nat)), some (D.tup (D.str f :: List.map Tm.d ts)), some (D.tup (D.str f :: List.map Tm.d us)), hj2.app k3 k4 (Ne.symm e) hpa hpb hlen hoa hob, rfl, ?_, rfl, ?_⟩
            · rw [hz]; omega
            · rw [hz]; omega
            · rw [List.map_append]
          · have hfa : (decide (f = g) && decide (ts.length = us.length)) = false := by
              by_cases h1 : f = g
              · rw [decide_eq_true h1, decide_eq_false (fun h2 => hal ⟨h1, h2⟩)]; rfl
              · rw [decide_eq_false h1]; rfl
            rw [hfa]
            try simp only [dSeq, dAsg, dgName, dgTup, dgCons, dgNil, dgSub, dRet, dRetN, dIfS, dDrop, dNext, dBreak, dCont, dAug, dVar, dC, dBin, dTest, dChain, dTru, dNotT, dAndT, dOrT, dAndV, dOrV, dNotV, dIf, dNil, dCons, dTup, dLst, dNewDict, dNeg, dCB, dBM, dBM0, dCall, dYes,   dSl, dNoPart, dPart, qSl, dBack, qBack, dFor, dISeq, dIRng1, dIRng2, dIZip, dLc, dDc,   qAdd, qInt, qInt0, qSub, qMul, qDiv, qMod, qPow, qLt, qLe, qGt, qGe, qIs, qIsNot, qIx, qLen, qAbs, qMax, qMin, qSum, qAll, qAny, qInt_, qStr_, qList_, qTuple_, qDict_, qIsi, qSet, iAdd, iSub, iMul, iDiv, iMod,   mAppend, mExtend, mPop, truD, tyN, isTy, seqD, lstD, keyD, isNonD,   kit_ii, kit_bi, kit_si, kit_ti, kit_li, kit_di, kit_ni, kit_ib, kit_bb, kit_sb, kit_tb, kit_lb, kit_nb, kit_is, kit_ss, kit_ts, kit_ls, kit_ns, kit_it, kit_st, kit_tt, kit_lt, kit_nt, kit_il, kit_tl, kit_ll, kit_dl, kit_nl, kit_dd, kit_nd, kit_ld,   startD, wipeD, List.map_cons, List.map_nil, List.length_cons, List.length_nil, Nat.reduceAdd, Nat.reduceSub, List.replicate_succ, List.replicate_zero, List.cons_append, List.nil_append, List.getElem?_cons_zero, List.getElem?_cons_succ, List.set_cons_zero, List.set_cons_succ,   List.length_append, List.length_set, set_get, Option.map_some, List.set_set, atI_0, atI_1, atI_2, atI_3, atI_4, atI_5, atI_6, List.append_assoc, Nat.add_assoc, getK, getK0, getL, setK, setK0, setL, List.length_map, mJoin, mIndex, mCount, mGet, strsOf, intsOf, blsOf, Option.bind_some, intsD_map, strsD_map, blsD_map, Option.isSome_some, szl, Nat.reduceLeDiff, qEq_ii, qNe_ii, Bool.not_true, Bool.not_false, decT, decF, dDelT, dDisp, dPairs, dFld, dFldS, dMeth, dMake, dIEnum, dAugK, dNever, dListRev, dListRg1, dPar, dListZip, dForD, mSetd, dRaise, dCallX, dMethX, dMakeX, dTryOnly, dTryAs, wipeE, qIsE, clsVal, clsVals, PySem.W.kitAny, eq_self, true_and]
            refine Done.old (okM_set hM ?_) (takeK (by simp)) rfl (qf (hj2.clash k3 k4 hpa hpb hal) L2)
            exact natD_ok _ _
end
section
variable {P : Program} {w : World} {K : PySem.W.Frag} {mg : Str → Option Value} {base : Heap}
theorem natD_last {W : List Nat} {x : Nat} : atI (natD (W ++ [x])) (-1) = some (.int (x : Nat)) := by
  have e : (natD (W ++ [x])).length = W.length + 1 := by rw [natD_len, List.length_append]; rfl
  unfold L2.atI
  rw [e]
  have : ixN (W.length + 1) (-1) = some W.length := by
    unfold ixN
    rw [if_neg (by omega), if_pos (by omega)]
    congr 1
    omega
  rw [this]
  unfold natD
  simp
theorem natD_append (A B : List Nat) : natD (A ++ B) = natD A ++ natD B := by unfold natD; rw [List.map_append]
theorem getG0 {A : Mem} {a b c x : MO} {G X : Mem} {n : Nat} (h : A.length = n) : (A ++ a :: b :: c :: (G ++ x :: X))[n + (G.length + 3)]? = some x := by
  rw [List.getElem?_append_right (by omega), show n + (G.length + 3) - A.length = G.length + 3 by omega]
  simp
theorem getG1 {A : Mem} {a b c x y : MO} {G X : Mem} {n : Nat} (h : A.length = n) : (A ++ a :: b :: c :: (G ++ x :: y :: X))[n + (G.length + 4)]? = some y := by
  rw [List.getElem?_append_right (by omega), show n + (G.length + 4) - A.length = G.length + 4 by omega]
  simp
theorem getG2 {A : Mem} {a b c x y z : MO} {G X : Mem} {n : Nat} (h : A.length = n) : (A ++ a :: b :: c :: (G ++ x :: y :: z :: X))[n + (G.length + 5)]? = some z := by
  rw [List.getElem?_append_right (by omega), show n + (G.length + 5) - A.length = G.length + 5 by omega]
  simp
def topsOf (B : Fl) (Q : List Nat) : List Tm := Q.map fun (q : Nat) => (getF B (q : Int)).getD (.var 0)
theorem topsOf_len (B : Fl) (Q : List Nat) : (topsOf B Q).length = Q.length := by unfold topsOf; rw [List.length_map]
theorem val_trues (Z : List Int) (i : Int) : (valD (trues Z) (Sum.inl i)).isSome = decide (i ∈ Z) := by
  unfold valD trues
  induction Z with
  | nil => rfl
  | cons z Z ih =>
    rw [List.map_cons, List.find?_cons]
    by_cases h : z = i
    · subst h; simp
    · have : decide ((Sum.inl z : Key) = Sum.inl i) = false := decide_eq_false (fun e => h (by injection e))
      rw [this]
      rw [ih]
      simp [Ne.symm h]
theorem built_loop {ok : Mem → Prop} {B : Fl} {r0 : Rho} {N : Mem} {l : Nat} {kk : List D → Mem → Prop} (Q : List Nat) (hr1 : r0[1]? = some (some (.loc l))) (hr8 : 8 < r0.length) (hN : N[l]? = some (.dic (builtD B))) (hok : ok N) (hQ : Q.length ≤ 2000)
    (hall : ∀ q ∈ Q, ∃ v, getF B (q : Nat) = some v) (q : kk ((topsOf B Q).map Tm.d) N) : lcGo ok 8 r0 dYes (dBin qIx (dBin qIx (dVar 1) (dVar 8)) (dC (.int 0))) (natD Q) N [] kk := by
  refine lcGo_ind (fun items M' acc => ∃ (as bs : List Nat), Q = as ++ bs ∧ items = natD bs ∧ M' = N ∧ acc = (topsOf B as).map Tm.d) ?_ ?_ _ _ _ ⟨[], Q, rfl, rfl, rfl, rfl⟩
  · rintro y rest M' acc ⟨as, bs, hab, hi, rfl, rfl⟩ ih
    refine ⟨hok, ?_⟩
    cases bs with
    | nil => cases hi
    | cons z bs =>
    unfold natD at hi
    rw [List.map_cons] at hi
    injection hi with hx' hr
    subst hx' hr
    obtain ⟨v, hv⟩ := hall z (by rw [hab]; simp)
    have g1 : (r0.set 8 (some (D.int (z : Nat))))[1]? = some (some (.loc l)) := by rw [List.getElem?_set_ne (by decide)]; exact hr1
    have g8 : (r0.set 8 (some (D.int (z : Nat))))[8]? = some (some (D.int (z : Nat))) := List.getElem?_set_self hr8
    have gv : valD (builtD B) (Sum.inl (z : Int)) = some (.tup [v.d, .int (v.size : Nat)]) := by rw [val_builtD, hv]; rfl
    try simp only [dSeq, dAsg, dgName, dgTup, dgCons, dgNil, dgSub, dRet, dRetN, dIfS, dDrop, dNext, dBreak, dCont, dAug, dVar, dC, dBin, dTest, dChain, dTru, dNotT, dAndT, dOrT, dAndV, dOrV, dNotV, dIf, dNil, dCons, dTup, dLst, dNewDict, dNeg, dCB, dBM, dBM0, dCall, dYes,   dSl, dNoPart, dPart, qSl, dBack, qBack, dFor, dISeq, dIRng1, dIRng2, dIZip, dLc, dDc,   qAdd, qInt, qInt0, qSub, qMul, qDiv, qMod, qPow, qLt, qLe, qGt, qGe, qIs, qIsNot, qIx, qLen, qAbs, qMax, qMin, qSum, qAll, qAny, qInt_, qStr_, qList_, qTuple_, qDict_, qIsi, qSet, iAdd, iSub, iMul, iDiv, iMod,   mAppend, mExtend, mPop, truD, tyN, isTy, seqD, lstD, keyD, isNonD,   kit_ii, kit_bi, kit_si, kit_ti, kit_li, kit_di, kit_ni, kit_ib, kit_bb, kit_sb, kit_tb, kit_lb, kit_nb, kit_is, kit_ss, kit_ts, kit_ls, kit_ns, kit_it, kit_st, kit_tt, kit_lt, kit_nt, kit_il, kit_tl, kit_ll, kit_dl, kit_nl, kit_dd, kit_nd, kit_ld,   startD, wipeD, List.map_cons, List.map_nil, List.length_cons, List.length_nil, Nat.reduceAdd, Nat.reduceSub, List.replicate_succ, List.replicate_zero, List.cons_append, List.nil_append, List.getElem?_cons_zero, List.getElem?_cons_succ, List.set_cons_zero, List.set_cons_succ,   List.length_append, List.length_set, set_get, Option.map_some, List.set_set, atI_0, atI_1, atI_2, atI_3, atI_4, atI_5, atI_6, List.append_assoc, Nat.add_assoc, getK, getK0, getL, setK, setK0, setL, List.length_map, mJoin, mIndex, mCount, mGet, strsOf, intsOf, blsOf, Option.bind_some, intsD_map, strsD_map, blsD_map, Option.isSome_some, szl, Nat.reduceLeDiff, qEq_ii, qNe_ii, Bool.not_true, Bool.not_false, decT, decF, dDelT, dDisp, dPairs, dFld, dFldS, dMeth, dMake, dIEnum, dAugK, dNever, dListRev, dListRg1, dPar, dListZip, dForD, mSetd, dRaise, dCallX, dMethX, dMakeX, dTryOnly, dTryAs, wipeE, qIsE, clsVal, clsVals, PySem.W.kitAny, eq_self, true_and, g1, g8, hN, gv]
    have h5 := congrArg List.length hab
    rw [List.length_append] at h5
    refine ⟨by rw [topsOf_len]; omega, ih _ _ ⟨as ++ [z], bs, by rw [hab]; simp, rfl, rfl, ?_⟩⟩
    unfold topsOf
    rw [List.map_append, List.map_append]
    simp [hv]
  · rintro M' acc ⟨as, bs, hab, hi, rfl, rfl⟩
    have hbn : bs = [] := by
      cases bs with
      | nil => rfl
      | cons _ _ => cases hi
    subst hbn
    rw [List.append_nil] at hab
    subst hab
    exact ⟨hok, q⟩
theorem built_loop1 {ok : Mem → Prop} {B : Fl} {r0 : Rho} {N : Mem} {l : Nat} {kk : List D → Mem → Prop} (Q : List Nat) (hr1 : r0[1]? = some (some (.loc l))) (hr8 : 8 < r0.length) (hN : N[l]? = some (.dic (builtD B))) (hok : ok N) (hQ : Q.length ≤ 2000)
    (hall : ∀ q ∈ Q, ∃ v, getF B (q : Nat) = some v) (q : kk (((topsOf B Q).map fun u => ((u.size : Nat) : Int)).map D.int) N) : lcGo ok 8 r0 dYes (dBin qIx (dBin qIx (dVar 1) (dVar 8)) (dC (.int 1))) (natD Q) N [] kk := by
  refine lcGo_ind (fun items M' acc => ∃ (as bs : List Nat), Q = as ++ bs ∧ items = natD bs ∧ M' = N ∧ acc = ((topsOf B as).map fun u => ((u.size : Nat) : Int)).map D.int) ?_ ?_ _ _ _ ⟨[], Q, rfl, rfl, rfl, rfl⟩
  · rintro y rest M' acc ⟨as, bs, hab, hi, rfl, rfl⟩ ih
    refine ⟨hok, ?_⟩
    cases bs with
    | nil => cases hi
    | cons z bs =>
    unfold natD at hi
    rw [List.map_cons] at hi
    injection hi with hx' hr
    subst hx' hr
    obtain ⟨v, hv⟩ := hall z (by rw [hab]; simp)
    have g1 : (r0.set 8 (some (D.int (z : Nat))))[1]? = some (some (.loc l)) := by rw [List.getElem?_set_ne (by decide)]; exact hr1
    have g8 : (r0.set 8 (some (D.int (z : Nat))))[8]? = some (some (D.int (z : Nat))) := List.getElem?_set_self hr8
    have gv : valD (builtD B) (Sum.inl (z : Int)) = some (.tup [v.d, .int (v.size : Nat)]) := by rw [val_builtD, hv]; rfl
    try simp only [dSeq, dAsg, dgName, dgTup, dgCons, dgNil, dgSub, dRet, dRetN, dIfS, dDrop, dNext, dBreak, dCont, dAug, dVar, dC, dBin, dTest, dChain, dTru, dNotT, dAndT, dOrT, dAndV, dOrV, dNotV, dIf, dNil, dCons, dTup, dLst, dNewDict, dNeg, dCB, dBM, dBM0, dCall, dYes,   dSl, dNoPart, dPart, qSl, dBack, qBack, dFor, dISeq, dIRng1, dIRng2, dIZip, dLc, dDc,   qAdd, qInt, qInt0, qSub, qMul, qDiv, qMod, qPow, qLt, qLe, qGt, qGe, qIs, qIsNot, qIx, qLen, qAbs, qMax, qMin, qSum, qAll, qAny, qInt_, qStr_, qList_, qTuple_, qDict_, qIsi, qSet, iAdd, iSub, iMul, iDiv, iMod,   mAppend, mExtend, mPop, truD, tyN, isTy, seqD, lstD, keyD, isNonD,   kit_ii, kit_bi, kit_si, kit_ti, kit_li, kit_di, kit_ni, kit_ib, kit_bb, kit_sb, kit_tb, kit_lb, kit_nb, kit_is, kit_ss, kit_ts, kit_ls, kit_ns, kit_it, kit_st, kit_tt, kit_lt, kit_nt, kit_il, kit_tl, kit_ll, kit_dl, kit_nl, kit_dd, kit_nd, kit_ld,   startD, wipeD, List.map_cons, List.map_nil, List.length_cons, List.length_nil, Nat.reduceAdd, Nat.reduceSub, List.replicate_succ, List.replicate_zero, List.cons_append, List.nil_append, List.getElem?_cons_zero, List.getElem?_cons_succ, List.set_cons_zero, List.set_cons_succ,   List.length_append, List.length_set, set_get, Option.map_some, List.set_set, atI_0, atI_1, atI_2, atI_3, atI_4, atI_5, atI_6, List.append_assoc, Nat.add_assoc, getK, getK0, getL, setK, setK0, setL, List.length_map, mJoin, mIndex, mCount, mGet, strsOf, intsOf, blsOf, Option.bind_some, intsD_map, strsD_map, blsD_map, Option.isSome_some, szl, Nat.reduceLeDiff, qEq_ii, qNe_ii, Bool.not_true, Bool.not_false, decT, decF, dDelT, dDisp, dPairs, dFld, dFldS, dMeth, dMake, dIEnum, dAugK, dNever, dListRev, dListRg1, dPar, dListZip, dForD, mSetd, dRaise, dCallX, dMethX, dMakeX, dTryOnly, dTryAs, wipeE, qIsE, clsVal, clsVals, PySem.W.kitAny, eq_self, true_and, g1, g8, hN, gv]
    have h5 := congrArg List.length hab
    rw [List.length_append] at h5
    refine ⟨by rw [topsOf_len]; omega, ih _ _ ⟨as ++ [z], bs, by rw [hab]; simp, rfl, rfl, ?_⟩⟩
    unfold topsOf
    rw [List.map_append, List.map_append, List.map_append]
    simp [hv]
  · rintro M' acc ⟨as, bs, hab, hi, rfl, rfl⟩
    have hbn : bs = [] := by
      cases bs with
      | nil => rfl
      | cons _ _ => cases hi
    subst hbn
    rw [List.append_nil] at hab
    subst hab
    exact ⟨hok, q⟩
def sp_built : DSp := fun ds M Q _ => ∃ (n a b c : Nat) (s t : Tm) (P : List Tm) (F L : List Nat), ds = [.loc n] ∧ JntAt K M n a b c P F L ∧ n ≠ c ∧ a ≠ c ∧ b ≠ c ∧ Joined s t P F [] L ∧ P.length ≤ 2000 ∧ (∀ u ∈ P, u.size ≤ 2000) ∧
  (∀ L' B r, SameTops L L' → Bt P F L B → SameTop L 0 r → L[r]? = some r → (getF B r).isSome → Q (.loc M.length) (M.set c (.lst (natD L')) ++ [.dic (builtD B)])) ∧ ((∀ θ : Fl, s.fill θ ≠ t.fill θ) → ∀ L', Q .non (M.set c (.lst (natD L'))))
theorem fn_built (T : Top K mg) : DFn P w K mg base CX0 3 "_built" ["joint"] (sp_built (K := K)) := by
  have F_Joint_top := fn_jtop (P := P) (w := w) (base := base) T
  have F_Joint_inner := fn_inner (P := P) (w := w) (base := base) T
  obtain ⟨fd, F⟩ := T.d__built
  have sc := sc__built
  refine DFn.ofD (k := 2) F T.g__built (FunD.bindsN F fun _ _ _ _ _ _ us hl => match us, hl with | [_], _ => rfl) sc ?len ⟨_, fun cdv A outer s H E m0 hr => (
      (dss_cons (ds_set 1 sc.nd de_dict0)
      (dss_cons (ds_set 2 sc.nd de_dict0)
      (dss_cons (ds_set 3 sc.nd (de_lst (da_cons (de_meth F_Joint_top (hr.mono (by omega)) pass0 (de_var 0) (da_cons de_int da_nil)) da_nil)))
      (dss_cons (ds_while PassesOwn.never (dt_e (de_var 3)) (dss_cons (ds_set 4 sc.nd (de_ix hr (de_var 3) (de_neg de_int)))
      (dss_cons (ds_setLc 5 8 (own := [("number", 8)]) rfl sc.nd (di_seq (de_meth F_Joint_inner (hr.mono (by omega)) pass0 (de_var 0) (da_cons (de_var 4) da_nil))) (show blkC ["joint", "built", "begun", "waiting", "top", "inner", "lacking", "part", "number"] (defScope s__built) _ [("number", 8)] = true by decide +kernel) (by decide) (sw_true rfl rfl rfl (by decide +kernel)) (fun _ _ _ _ _ => pg_name (i := 8) sc.nd rfl (by first | exact Or.inl rfl | exact Or.inr rfl)) (fun _ _ _ _ _ => dts_nil) (fun _ _ _ _ _ => (de_meth F_Joint_top (hr.mono (by omega)) pass0 (de_var 0) (da_cons (de_var 8) da_nil))))
      (dss_cons (ds_setLc 6 8 (own := [("number", 8)]) rfl sc.nd (di_seq (de_var 5)) (show blkC ["joint", "built", "begun", "waiting", "top", "inner", "lacking", "part", "number"] (defScope s__built) _ [("number", 8)] = true by decide +kernel) (by decide) (sw_true rfl rfl rfl (by decide +kernel)) (fun _ _ _ _ _ => pg_name (i := 8) sc.nd rfl (by first | exact Or.inl rfl | exact Or.inr rfl)) (fun _ _ _ _ _ => (dts_one (dt_cmp (dop_notin hr) (de_var 8) (de_var 1)))) (fun _ _ _ _ _ => (de_var 8)))
      (dss_one (ds_if (dt_not (dt_e (de_var 6))) (dss_cons (ds_expr (de_bm0 PySem.F.plainAttrs_list PySem.F.slot_list_pop PySem.F.type_list_pop dm_pop (de_var 3)))
      (dss_cons (ds_set 7 sc.nd (de_ix hr (de_fld T.c_Joint T.a_Joint_parts (de_var 0)) (de_var 4)))
      (dss_cons (ds_if (dt_not (dt_e (de_cb T.n_isinstance dc_isi b_isinstance (da_cons (de_var 7) (da_cons (de_ty T.n_int b_int) da_nil))))) (dss_one (ds_set 7 sc.nd (de_bin dop_add (de_tup (da_cons (de_ix hr (de_var 7) de_int) da_nil)) (de_ct T.n_tuple dc_tuple b_tuple (da_cons (de_lc 8 (own := [("number", 8)]) rfl sc.nd (di_seq (de_var 5)) (show blkC ["joint", "built", "begun", "waiting", "top", "inner", "lacking", "part", "number"] (defScope s__built) _ [("number", 8)] = true by decide +kernel) (by decide) (fun _ _ _ _ _ => pg_name (i := 8) sc.nd rfl (by first | exact Or.inl rfl | exact Or.inr rfl)) (fun _ _ _ _ _ => dts_nil) (fun _ _ _ _ _ => (de_ix hr (de_ix hr (de_var 1) (de_var 8)) de_int))) da_nil))))) dss_nil)
      (dss_one (ds_asg (de_tup (da_cons (de_var 7) (da_cons (de_bin dop_add de_int (de_cb T.n_sum (dc_sum rfl) b_sum (da_cons (de_lc 8 (own := [("number", 8)]) rfl sc.nd (di_seq (de_var 5)) (show blkC ["joint", "built", "begun", "waiting", "top", "inner", "lacking", "part", "number"] (defScope s__built) _ [("number", 8)] = true by decide +kernel) (by decide) (fun _ _ _ _ _ => pg_name (i := 8) sc.nd rfl (by first | exact Or.inl rfl | exact Or.inr rfl)) (fun _ _ _ _ _ => dts_nil) (fun _ _ _ _ _ => (de_ix hr (de_ix hr (de_var 1) (de_var 8)) de_int))) da_nil))) da_nil))) (dg_sub hr (de_var 1) (de_var 4))))))) (dss_one (ds_if (dt_cmp (dop_in hr) (de_var 4) (de_var 2)) (dss_one (ds_ret de_non)) (dss_cons (ds_asg de_bl (dg_sub hr (de_var 2) (de_var 4)))
      (dss_one (ds_expr (de_bm PySem.F.plainAttrs_list PySem.F.slot_list_extend PySem.F.type_list_extend dm_extend (de_var 3) (da_cons (de_var 6) da_nil)))))))))))))
      (dss_one (ds_ret (de_var 1)))))))), ?_⟩
  case len =>
    rintro ds M Q E ⟨n, a, b, c, s, t, P, F, L, rfl, _⟩
    rfl
  rintro ds M Qd Ed ⟨n, a, b, c, s, t, P, F, L, rfl, hJ, h1, h2, h3, J, hP, hu, q, qn⟩ hM
  have hcl := (List.getElem?_eq_some_iff.mp hJ.2.2.2).1
  have hno2 : (jntF (.loc a) (.loc b) (.loc c)).lookup (Str.ofString "top") = none := jnt_no (by decide +kernel) (by decide +kernel) (by decide +kernel)
  have hno3 : (jntF (.loc a) (.loc b) (.loc c)).lookup (Str.ofString "inner") = none := jnt_no (by decide +kernel) (by decide +kernel) (by decide +kernel)
  have hJ1 : ∀ (L : List Nat) (G : Mem), JntAt K (M.set c (.lst (natD L)) ++ G) n a b c P F L := fun L G => (hJ.links h1 h2 h3 L).append
  have hset : ∀ (L L' : List Nat) (G : Mem), (M.set c (.lst (natD L)) ++ G).set c (.lst (natD L')) = M.set c (.lst (natD L')) ++ G := fun L L' G => by
    rw [setL (by simpa using hcl), List.set_set]
  have hset0 : ∀ (L' : List Nat) (G : Mem), (M ++ G).set c (.lst (natD L')) = M.set c (.lst (natD L')) ++ G := fun L' G => by
    rw [setL hcl]
  have hP0 : 0 < P.length := by have := J.laid.two; omega
  obtain ⟨d0, r0, k0⟩ := J.root.2 0 hP0
  try simp only [dSeq, dAsg, dgName, dgTup, dgCons, dgNil, dgSub, dRet, dRetN, dIfS, dDrop, dNext, dBreak, dCont, dAug, dVar, dC, dBin, dTest, dChain, dTru, dNotT, dAndT, dOrT, dAndV, dOrV, dNotV, dIf, dNil, dCons, dTup, dLst, dNewDict, dNeg, dCB, dBM, dBM0, dCall, dYes,   dSl, dNoPart, dPart, qSl, dBack, qBack, dFor, dISeq, dIRng1, dIRng2, dIZip, dLc, dDc,   qAdd, qInt, qInt0, qSub, qMul, qDiv, qMod, qPow, qLt, qLe, qGt, qGe, qIs, qIsNot, qIx, qLen, qAbs, qMax, qMin, qSum, qAll, qAny, qInt_, qStr_, qList_, qTuple_, qDict_, qIsi, qSet, iAdd, iSub, iMul, iDiv, iMod,   mAppend, mExtend, mPop, truD, tyN, isTy, seqD, lstD, keyD, isNonD,   kit_ii, kit_bi, kit_si, kit_ti, kit_li, kit_di, kit_ni, kit_ib, kit_bb, kit_sb, kit_tb, kit_lb, kit_nb, kit_is, kit_ss, kit_ts, kit_ls, kit_ns, kit_it, kit_st, kit_tt, kit_lt, kit_nt, kit_il, kit_tl, kit_ll, kit_dl, kit_nl, kit_dd, kit_nd, kit_ld,   startD, wipeD, List.map_cons, List.map_nil, List.length_cons, List.length_nil, Nat.reduceAdd, Nat.reduceSub, List.replicate_succ, List.replicate_zero, List.cons_append, List.nil_append, List.getElem?_cons_zero, List.getElem?_cons_succ, List.set_cons_zero, List.set_cons_succ,   List.length_append, List.length_set, set_get, Option.map_some, List.set_set, atI_0, atI_1, atI_2, atI_3, atI_4, atI_5, atI_6, List.append_assoc, Nat.add_assoc, getK, getK0, getL, setK, setK0, setL, List.length_map, mJoin, mIndex, mCount, mGet, strsOf, intsOf, blsOf, Option.bind_some, intsD_map, strsD_map, blsD_map, Option.isSome_some, szl, Nat.reduceLeDiff, qEq_ii, qNe_ii, Bool.not_true, Bool.not_false, decT, decF, dDelT, dDisp, dPairs, dFld, dFldS, dMeth, dMake, dIEnum, dAugK, dNever, dListRev, dListRg1, dPar, dListZip, dForD, mSetd, dRaise, dCallX, dMethX, dMakeX, dTryOnly, dTryAs, wipeE, qIsE, clsVal, clsVals, PySem.W.kitAny, eq_self, true_and, (hJ.append (G := [.dic [], .dic []])).1, hno2]
  refine ⟨n, a, b, c, 0, r0, d0, P, F, L, rfl, hJ.append, h1, h2, h3, by rw [J.root.1]; omega, k0, fun L1 hL1 => ?_⟩
  rw [hset0]
  try simp only [dSeq, dAsg, dgName, dgTup, dgCons, dgNil, dgSub, dRet, dRetN, dIfS, dDrop, dNext, dBreak, dCont, dAug, dVar, dC, dBin, dTest, dChain, dTru, dNotT, dAndT, dOrT, dAndV, dOrV, dNotV, dIf, dNil, dCons, dTup, dLst, dNewDict, dNeg, dCB, dBM, dBM0, dCall, dYes,   dSl, dNoPart, dPart, qSl, dBack, qBack, dFor, dISeq, dIRng1, dIRng2, dIZip, dLc, dDc,   qAdd, qInt, qInt0, qSub, qMul, qDiv, qMod, qPow, qLt, qLe, qGt, qGe, qIs, qIsNot, qIx, qLen, qAbs, qMax, qMin, qSum, qAll, qAny, qInt_, qStr_, qList_, qTuple_, qDict_, qIsi, qSet, iAdd, iSub, iMul, iDiv, iMod,   mAppend, mExtend, mPop, truD, tyN, isTy, seqD, lstD, keyD, isNonD,   kit_ii, kit_bi, kit_si, kit_ti, kit_li, kit_di, kit_ni, kit_ib, kit_bb, kit_sb, kit_tb, kit_lb, kit_nb, kit_is, kit_ss, kit_ts, kit_ls, kit_ns, kit_it, kit_st, kit_tt, kit_lt, kit_nt, kit_il, kit_tl, kit_ll, kit_dl, kit_nl, kit_dd, kit_nd, kit_ld,   startD, wipeD, List.map_cons, List.map_nil, List.length_cons, List.length_nil, Nat.reduceAdd, Nat.reduceSub, List.replicate_succ, List.replicate_zero, List.cons_append, List.nil_append, List.getElem?_cons_zero, List.getElem?_cons_succ, List.set_cons_zero, List.set_cons_succ,   List.length_append, List.length_set, set_get, Option.map_some, List.set_set, atI_0, atI_1, atI_2, atI_3, atI_4, atI_5, atI_6, List.append_assoc, Nat.add_assoc, getK, getK0, getL, setK, setK0, setL, List.length_map, mJoin, mIndex, mCount, mGet, strsOf, intsOf, blsOf, Option.bind_some, intsD_map, strsD_map, blsD_map, Option.isSome_some, szl, Nat.reduceLeDiff, qEq_ii, qNe_ii, Bool.not_true, Bool.not_false, decT, decF, dDelT, dDisp, dPairs, dFld, dFldS, dMeth, dMake, dIEnum, dAugK, dNever, dListRev, dListRg1, dPar, dListZip, dForD, mSetd, dRaise, dCallX, dMethX, dMakeX, dTryOnly, dTryAs, wipeE, qIsE, clsVal, clsVals, PySem.W.kitAny, eq_self, true_and]
  refine while_ind (fun k r M' => ∃ (Ws : List Nat) (B : Fl) (Z : List Int) (L1 : List Nat) (G : Mem) (u1 u2 u3 u4 u5 : Option D), SameTops L L1 ∧ BI P F L r0 B Z Ws ∧ k + Z.length * 10000 = P.length * 10000 + Ws.length ∧ Ws.length ≤ 1 + Z.length * 2000 ∧
    r = [some (D.loc n), some (D.loc M.length), some (D.loc (M.length + 1)), some (D.loc (M.length + 2)), u1, u2, u3, u4, u5] ∧ M' = M.set c (.lst (natD L1)) ++ ([.dic (builtD B), .dic (trues Z), .lst (natD Ws)] ++ G)) (P.length * 10000 + 1)
    ⟨[r0], [], [], L1, [], none, none, none, none, none, hL1, .start k0.top, by simp, by simp, rfl, rfl⟩ ?_
  rintro k r M' ⟨Ws, B, Z, L1, G, u1, u2, u3, u4, u5, hs, hb, hk, hw, rfl, rfl⟩
  have hzl := hb.zlen
  have hBl := hb.bt.len J
  rcases List.eq_nil_or_concat Ws with rfl | ⟨W0, x, rfl⟩
  · have hroot : (getF B r0).isSome := by
      rcases hb.root with h | ⟨W', h⟩
      · exact h
      · cases h
    have e0 : (natD []).isEmpty = true := rfl
    try simp only [dSeq, dAsg, dgName, dgTup, dgCons, dgNil, dgSub, dRet, dRetN, dIfS, dDrop, dNext, dBreak, dCont, dAug, dVar, dC, dBin, dTest, dChain, dTru, dNotT, dAndT, dOrT, dAndV, dOrV, dNotV, dIf, dNil, dCons, dTup, dLst, dNewDict, dNeg, dCB, dBM, dBM0, dCall, dYes,   dSl, dNoPart, dPart, qSl, dBack, qBack, dFor, dISeq, dIRng1, dIRng2, dIZip, dLc, dDc,   qAdd, qInt, qInt0, qSub, qMul, qDiv, qMod, qPow, qLt, qLe, qGt, qGe, qIs, qIsNot, qIx, qLen, qAbs, qMax, qMin, qSum, qAll, qAny, qInt_, qStr_, qList_, qTuple_, qDict_, qIsi, qSet, iAdd, iSub, iMul, iDiv, iMod,   mAppend, mExtend, mPop, truD, tyN, isTy, seqD, lstD, keyD, isNonD,   kit_ii, kit_bi, kit_si, kit_ti, kit_li, kit_di, kit_ni, kit_ib, kit_bb, kit_sb, kit_tb, kit_lb, kit_nb, kit_is, kit_ss, kit_ts, kit_ls, kit_ns, kit_it, kit_st, kit_tt, kit_lt, kit_nt, kit_il, kit_tl, kit_ll, kit_dl, kit_nl, kit_dd, kit_nd, kit_ld,   startD, wipeD, List.map_cons, List.map_nil, List.length_cons, List.length_nil, Nat.reduceAdd, Nat.reduceSub, List.replicate_succ, List.replicate_zero, List.cons_append, List.nil_append, List.getElem?_cons_zero, List.getElem?_cons_succ, List.set_cons_zero, List.set_cons_succ,   List.length_append, List.length_set, set_get, Option.map_some, List.set_set, atI_0, atI_1, atI_2, atI_3, atI_4, atI_5, atI_6, List.append_assoc, Nat.add_assoc, getK, getK0, getL, setK, setK0, setL, List.length_map, mJoin, mIndex, mCount, mGet, strsOf, intsOf, blsOf, Option.bind_some, intsD_map, strsD_map, blsD_map, Option.isSome_some, szl, Nat.reduceLeDiff, qEq_ii, qNe_ii, Bool.not_true, Bool.not_false, decT, decF, dDelT, dDisp, dPairs, dFld, dFldS, dMeth, dMake, dIEnum, dAugK, dNever, dListRev, dListRg1, dPar, dListZip, dForD, mSetd, dRaise, dCallX, dMethX, dMakeX, dTryOnly, dTryAs, wipeE, qIsE, clsVal, clsVals, PySem.W.kitAny, eq_self, true_and, e0]
    refine Done.dict (okM_set hM (o := .lst (natD L1)) (natD_ok _ _)) (takeK (by simp)) (Nat.le_refl _) (getK0 (by simp)) ?_ (q L1 B r0 hs hb.bt (.self k0) k0.top hroot)
    rw [okDs_iff]
    intro d hd
    unfold builtD at hd
    rw [List.map_map] at hd
    obtain ⟨p, _, rfl⟩ := List.mem_map.mp hd
    show okDs _ [p.2.d, _] = true
    rw [okDs_iff]
    intro d hd
    simp only [List.mem_cons, List.not_mem_nil, or_false] at hd
    rcases hd with rfl | rfl
    · exact Tm.ok _ _
    · rfl
  · rw [List.concat_eq_append] at *
    have hx := hb.tops x (by simp)
    have hxl : x < P.length := by have := (List.getElem?_eq_some_iff.mp hx).1; rw [J.root.1] at this; exact this
    obtain ⟨u, hu'⟩ : ∃ u, P[x]? = some u := ⟨_, List.getElem?_eq_getElem hxl⟩
    obtain ⟨o, ho, _, _, hol, hog⟩ := J.laid.at_ x hxl u hu'
    have huz := hu u (List.mem_of_getElem? hu')
    have e1 : (natD (W0 ++ [x])).isEmpty = false := by rw [natD_append]; simp [natD]
    have f1 := natD_last (W := W0) (x := x)
    try simp only [dSeq, dAsg, dgName, dgTup, dgCons, dgNil, dgSub, dRet, dRetN, dIfS, dDrop, dNext, dBreak, dCont, dAug, dVar, dC, dBin, dTest, dChain, dTru, dNotT, dAndT, dOrT, dAndV, dOrV, dNotV, dIf, dNil, dCons, dTup, dLst, dNewDict, dNeg, dCB, dBM, dBM0, dCall, dYes,   dSl, dNoPart, dPart, qSl, dBack, qBack, dFor, dISeq, dIRng1, dIRng2, dIZip, dLc, dDc,   qAdd, qInt, qInt0, qSub, qMul, qDiv, qMod, qPow, qLt, qLe, qGt, qGe, qIs, qIsNot, qIx, qLen, qAbs, qMax, qMin, qSum, qAll, qAny, qInt_, qStr_, qList_, qTuple_, qDict_, qIsi, qSet, iAdd, iSub, iMul, iDiv, iMod,   mAppend, mExtend, mPop, truD, tyN, isTy, seqD, lstD, keyD, isNonD,   kit_ii, kit_bi, kit_si, kit_ti, kit_li, kit_di, kit_ni, kit_ib, kit_bb, kit_sb, kit_tb, kit_lb, kit_nb, kit_is, kit_ss, kit_ts, kit_ls, kit_ns, kit_it, kit_st, kit_tt, kit_lt, kit_nt, kit_il, kit_tl, kit_ll, kit_dl, kit_nl, kit_dd, kit_nd, kit_ld,   startD, wipeD, List.map_cons, List.map_nil, List.length_cons, List.length_nil, Nat.reduceAdd, Nat.reduceSub, List.replicate_succ, List.replicate_zero, List.cons_append, List.nil_append, List.getElem?_cons_zero, List.getElem?_cons_succ, List.set_cons_zero, List.set_cons_succ,   List.length_append, List.length_set, set_get, Option.map_some, List.set_set, atI_0, atI_1, atI_2, atI_3, atI_4, atI_5, atI_6, List.append_assoc, Nat.add_assoc, getK, getK0, getL, setK, setK0, setL, List.length_map, mJoin, mIndex, mCount, mGet, strsOf, intsOf, blsOf, Option.bind_some, intsD_map, strsD_map, blsD_map, Option.isSome_some, szl, Nat.reduceLeDiff, qEq_ii, qNe_ii, Bool.not_true, Bool.not_false, decT, decF, dDelT, dDisp, dPairs, dFld, dFldS, dMeth, dMake, dIEnum, dAugK, dNever, dListRev, dListRg1, dPar, dListZip, dForD, mSetd, dRaise, dCallX, dMethX, dMakeX, dTryOnly, dTryAs, wipeE, qIsE, clsVal, clsVals, PySem.W.kitAny, eq_self, true_and, e1, f1, (hJ1 _ _).1, hno3]
    refine ⟨n, a, b, c, x, o, P, F, L1, u, rfl, hJ1 _ _, hu', ho, by omega, by omega, ?_⟩
    try simp only [dSeq, dAsg, dgName, dgTup, dgCons, dgNil, dgSub, dRet, dRetN, dIfS, dDrop, dNext, dBreak, dCont, dAug, dVar, dC, dBin, dTest, dChain, dTru, dNotT, dAndT, dOrT, dAndV, dOrV, dNotV, dIf, dNil, dCons, dTup, dLst, dNewDict, dNeg, dCB, dBM, dBM0, dCall, dYes,   dSl, dNoPart, dPart, qSl, dBack, qBack, dFor, dISeq, dIRng1, dIRng2, dIZip, dLc, dDc,   qAdd, qInt, qInt0, qSub, qMul, qDiv, qMod, qPow, qLt, qLe, qGt, qGe, qIs, qIsNot, qIx, qLen, qAbs, qMax, qMin, qSum, qAll, qAny, qInt_, qStr_, qList_, qTuple_, qDict_, qIsi, qSet, iAdd, iSub, iMul, iDiv, iMod,   mAppend, mExtend, mPop, truD, tyN, isTy, seqD, lstD, keyD, isNonD,   kit_ii, kit_bi, kit_si, kit_ti, kit_li, kit_di, kit_ni, kit_ib, kit_bb, kit_sb, kit_tb, kit_lb, kit_nb, kit_is, kit_ss, kit_ts, kit_ls, kit_ns, kit_it, kit_st, kit_tt, kit_lt, kit_nt, kit_il, kit_tl, kit_ll, kit_dl, kit_nl, kit_dd, kit_nd, kit_ld,   startD, wipeD, List.map_cons, List.map_nil, List.length_cons, List.length_nil, Nat.reduceAdd, Nat.reduceSub, List.replicate_succ, List.replicate_zero, List.cons_append, List.nil_append, List.getElem?_cons_zero, List.getElem?_cons_succ, List.set_cons_zero, List.set_cons_succ,   List.length_append, List.length_set, set_get, Option.map_some, List.set_set, atI_0, atI_1, atI_2, atI_3, atI_4, atI_5, atI_6, List.append_assoc, Nat.add_assoc, getK, getK0, getL, setK, setK0, setL, List.length_map, mJoin, mIndex, mCount, mGet, strsOf, intsOf, blsOf, Option.bind_some, intsD_map, strsD_map, blsD_map, Option.isSome_some, szl, Nat.reduceLeDiff, qEq_ii, qNe_ii, Bool.not_true, Bool.not_false, decT, decF, dDelT, dDisp, dPairs, dFld, dFldS, dMeth, dMake, dIEnum, dAugK, dNever, dListRev, dListRg1, dPar, dListZip, dForD, mSetd, dRaise, dCallX, dMethX, dMakeX, dTryOnly, dTryAs, wipeE, qIsE, clsVal, clsVals, PySem.W.kitAny, eq_self, true_and]
    generalize hI : (List.range u.parts.length).map (fun k => o + k) = I
    have hIl : I.length = u.parts.length := by rw [← hI]; simp
    have hIk : ∀ k, k < I.length → I[k]? = some (o + k) := fun k hk => by
      rw [← hI, List.getElem?_map, List.getElem?_range (by omega)]
      rfl
    refine lcGo_ind (fun items M' acc => ∃ (as bs Q L2 : List Nat), I = as ++ bs ∧ items = natD bs ∧ SameTops L L2 ∧ Q.length = as.length ∧ (∀ k q, Q[k]? = some q → SameTop L (o + k) q ∧ L[q]? = some q) ∧
      M' = M.set c (.lst (natD L2)) ++ ([.dic (builtD B), .dic (trues Z), .lst (natD (W0 ++ [x]))] ++ (G ++ [.lst (natD I)])) ∧ acc = natD Q) ?_ ?_ _ _ _ ⟨[], I, [], L1, rfl, rfl, hs, rfl, (fun k q h => by cases h), by simp, rfl⟩
    · rintro y rest M' acc ⟨as, bs, Q, L2, hab, hi, hs2, hQ, hq, rfl, rfl⟩ ih
      refine ⟨getG0 (by simp), ?_⟩
      cases bs with
      | nil => cases hi
      | cons z bs =>
      unfold natD at hi
      rw [List.map_cons] at hi
      injection hi with hx' hr
      subst hx' hr
      have hal : as.length < I.length := by rw [hab, List.length_append, List.length_cons]; omega
      have hz : z = o + as.length := by
        have h4 := hIk as.length hal
        rw [hab, List.getElem?_append_right (Nat.le_refl _), Nat.sub_self] at h4
        exact Option.some.inj h4
      obtain ⟨dz, rz, kz⟩ := J.root.2 z (by omega)
      obtain ⟨dz', _, kz'⟩ := hs2.2 _ _ _ kz
      try simp only [dSeq, dAsg, dgName, dgTup, dgCons, dgNil, dgSub, dRet, dRetN, dIfS, dDrop, dNext, dBreak, dCont, dAug, dVar, dC, dBin, dTest, dChain, dTru, dNotT, dAndT, dOrT, dAndV, dOrV, dNotV, dIf, dNil, dCons, dTup, dLst, dNewDict, dNeg, dCB, dBM, dBM0, dCall, dYes,   dSl, dNoPart, dPart, qSl, dBack, qBack, dFor, dISeq, dIRng1, dIRng2, dIZip, dLc, dDc,   qAdd, qInt, qInt0, qSub, qMul, qDiv, qMod, qPow, qLt, qLe, qGt, qGe, qIs, qIsNot, qIx, qLen, qAbs, qMax, qMin, qSum, qAll, qAny, qInt_, qStr_, qList_, qTuple_, qDict_, qIsi, qSet, iAdd, iSub, iMul, iDiv, iMod,   mAppend, mExtend, mPop, truD, tyN, isTy, seqD, lstD, keyD, isNonD,   kit_ii, kit_bi, kit_si, kit_ti, kit_li, kit_di, kit_ni, kit_ib, kit_bb, kit_sb, kit_tb, kit_lb, kit_nb, kit_is, kit_ss, kit_ts, kit_ls, kit_ns, kit_it, kit_st, kit_tt, kit_lt, kit_nt, kit_il, kit_tl, kit_ll, kit_dl, kit_nl, kit_dd, kit_nd, kit_ld,   startD, wipeD, List.map_cons, List.map_nil, List.length_cons, List.length_nil, Nat.reduceAdd, Nat.reduceSub, List.replicate_succ, List.replicate_zero, List.cons_append, List.nil_append, List.getElem?_cons_zero, List.getElem?_cons_succ, List.set_cons_zero, List.set_cons_succ,   List.length_append, List.length_set, set_get, Option.map_some, List.set_set, atI_0, atI_1, atI_2, atI_3, atI_4, atI_5, atI_6, List.append_assoc, Nat.add_assoc, getK, getK0, getL, setK, setK0, setL, List.length_map, mJoin, mIndex, mCount, mGet, strsOf, intsOf, blsOf, Option.bind_some, intsD_map, strsD_map, blsD_map, Option.isSome_some, szl, Nat.reduceLeDiff, qEq_ii, qNe_ii, Bool.not_true, Bool.not_false, decT, decF, dDelT, dDisp, dPairs, dFld, dFldS, dMeth, dMake, dIEnum, dAugK, dNever, dListRev, dListRg1, dPar, dListZip, dForD, mSetd, dRaise, dCallX, dMethX, dMakeX, dTryOnly, dTryAs, wipeE, qIsE, clsVal, clsVals, PySem.W.kitAny, eq_self, true_and, (hJ1 _ _).1, hno2]
      refine ⟨n, a, b, c, z, rz, dz', P, F, L2, rfl, hJ1 _ _, h1, h2, h3, by rw [hs2.1, J.root.1]; omega, kz', fun L3 hL3 => ?_⟩
      rw [hset]
      try simp only [dSeq, dAsg, dgName, dgTup, dgCons, dgNil, dgSub, dRet, dRetN, dIfS, dDrop, dNext, dBreak, dCont, dAug, dVar, dC, dBin, dTest, dChain, dTru, dNotT, dAndT, dOrT, dAndV, dOrV, dNotV, dIf, dNil, dCons, dTup, dLst, dNewDict, dNeg, dCB, dBM, dBM0, dCall, dYes,   dSl, dNoPart, dPart, qSl, dBack, qBack, dFor, dISeq, dIRng1, dIRng2, dIZip, dLc, dDc,   qAdd, qInt, qInt0, qSub, qMul, qDiv, qMod, qPow, qLt, qLe, qGt, qGe, qIs, qIsNot, qIx, qLen, qAbs, qMax, qMin, qSum, qAll, qAny, qInt_, qStr_, qList_, qTuple_, qDict_, qIsi, qSet, iAdd, iSub, iMul, iDiv, iMod,   mAppend, mExtend, mPop, truD, tyN, isTy, seqD, lstD, keyD, isNonD,   kit_ii, kit_bi, kit_si, kit_ti, kit_li, kit_di, kit_ni, kit_ib, kit_bb, kit_sb, kit_tb, kit_lb, kit_nb, kit_is, kit_ss, kit_ts, kit_ls, kit_ns, kit_it, kit_st, kit_tt, kit_lt, kit_nt, kit_il, kit_tl, kit_ll, kit_dl, kit_nl, kit_dd, kit_nd, kit_ld,   startD, wipeD, List.map_cons, List.map_nil, List.length_cons, List.length_nil, Nat.reduceAdd, Nat.reduceSub, List.replicate_succ, List.replicate_zero, List.cons_append, List.nil_append, List.getElem?_cons_zero, List.getElem?_cons_succ, List.set_cons_zero, List.set_cons_succ,   List.length_append, List.length_set, set_get, Option.map_some, List.set_set, atI_0, atI_1, atI_2, atI_3, atI_4, atI_5, atI_6, List.append_assoc, Nat.add_assoc, getK, getK0, getL, setK, setK0, setL, List.length_map, mJoin, mIndex, mCount, mGet, strsOf, intsOf, blsOf, Option.bind_some, intsD_map, strsD_map, blsD_map, Option.isSome_some, szl, Nat.reduceLeDiff, qEq_ii, qNe_ii, Bool.not_true, Bool.not_false, decT, decF, dDelT, dDisp, dPairs, dFld, dFldS, dMeth, dMake, dIEnum, dAugK, dNever, dListRev, dListRg1, dPar, dListZip, dForD, mSetd, dRaise, dCallX, dMethX, dMakeX, dTryOnly, dTryAs, wipeE, qIsE, clsVal, clsVals, PySem.W.kitAny, eq_self, true_and]
      refine ⟨?_, ih _ _ ⟨as ++ [z], bs, Q ++ [rz], L3, by rw [hab]; simp, rfl, hs2.trans hL3, by simp [hQ], fun k q hk => ?_, rfl, by rw [natD_append]; rfl⟩⟩
      · rw [natD_len]; have := u.parts.length; omega
      · rcases snoc_get hk with h | ⟨h, h'⟩
        · exact hq k q h
        · subst h'
          rw [h, hQ, ← hz]
          exact ⟨.self kz, kz.top⟩
    · rintro M' acc ⟨as, bs, Q, L2, hab, hi, hs2, hQ, hq, rfl, rfl⟩
      refine ⟨getG0 (by simp), ?_⟩
      have hbn : bs = [] := by
        cases bs with
        | nil => rfl
        | cons _ _ => cases hi
      subst hbn
      rw [List.append_nil] at hab
      subst hab
      rw [hIl] at hQ
      try simp only [dSeq, dAsg, dgName, dgTup, dgCons, dgNil, dgSub, dRet, dRetN, dIfS, dDrop, dNext, dBreak, dCont, dAug, dVar, dC, dBin, dTest, dChain, dTru, dNotT, dAndT, dOrT, dAndV, dOrV, dNotV, dIf, dNil, dCons, dTup, dLst, dNewDict, dNeg, dCB, dBM, dBM0, dCall, dYes,   dSl, dNoPart, dPart, qSl, dBack, qBack, dFor, dISeq, dIRng1, dIRng2, dIZip, dLc, dDc,   qAdd, qInt, qInt0, qSub, qMul, qDiv, qMod, qPow, qLt, qLe, qGt, qGe, qIs, qIsNot, qIx, qLen, qAbs, qMax, qMin, qSum, qAll, qAny, qInt_, qStr_, qList_, qTuple_, qDict_, qIsi, qSet, iAdd, iSub, iMul, iDiv, iMod,   mAppend, mExtend, mPop, truD, tyN, isTy, seqD, lstD, keyD, isNonD,   kit_ii, kit_bi, kit_si, kit_ti, kit_li, kit_di, kit_ni, kit_ib, kit_bb, kit_sb, kit_tb, kit_lb, kit_nb, kit_is, kit_ss, kit_ts, kit_ls, kit_ns, kit_it, kit_st, kit_tt, kit_lt, kit_nt, kit_il, kit_tl, kit_ll, kit_dl, kit_nl, kit_dd, kit_nd, kit_ld,   startD, wipeD, List.map_cons, List.map_nil, List.length_cons, List.length_nil, Nat.reduceAdd, Nat.reduceSub, List.replicate_succ, List.replicate_zero, List.cons_append, List.nil_append, List.getElem?_cons_zero, List.getElem?_cons_succ, List.set_cons_zero, List.set_cons_succ,   List.length_append, List.length_set, set_get, Option.map_some, List.set_set, atI_0, atI_1, atI_2, atI_3, atI_4, atI_5, atI_6, List.append_assoc, Nat.add_assoc, getK, getK0, getL, setK, setK0, setL, List.length_map, mJoin, mIndex, mCount, mGet, strsOf, intsOf, blsOf, Option.bind_some, intsD_map, strsD_map, blsD_map, Option.isSome_some, szl, Nat.reduceLeDiff, qEq_ii, qNe_ii, Bool.not_true, Bool.not_false, decT, decF, dDelT, dDisp, dPairs, dFld, dFldS, dMeth, dMake, dIEnum, dAugK, dNever, dListRev, dListRg1, dPar, dListZip, dForD, mSetd, dRaise, dCallX, dMethX, dMakeX, dTryOnly, dTryAs, wipeE, qIsE, clsVal, clsVals, PySem.W.kitAny, eq_self, true_and]
      have hQk : ∀ q ∈ Q, Kid P F L x q := fun q hm => by
        obtain ⟨k, hk⟩ := List.getElem?_of_mem hm
        have hkl := (List.getElem?_eq_some_iff.mp hk).1
        cases u with
        | var i => exact absurd (show k < 0 by rw [hQ] at hkl; exact hkl) (Nat.not_lt_zero _)
        | app f ts => exact (Kids.of (Q := Q) hu' ho hQ hq).sound q hm
      have hQa : ∀ q, Kid P F L x q → q ∈ Q := fun q hm => by
        cases u with
        | var i => exact absurd ((Kids.var hu').all q hm) (by simp)
        | app f ts => exact (Kids.of (Q := Q) hu' ho hQ hq).all q hm
      refine lcGo_ind (fun items M' acc => ∃ (as bs : List Nat), Q = as ++ bs ∧ items = natD bs ∧
        M' = M.set c (.lst (natD L2)) ++ (.dic (builtD B) :: .dic (trues Z) :: .lst (natD (W0 ++ [x])) :: (G ++ [.lst (natD I), .lst (natD Q)])) ∧ acc = natD (as.filter fun q => (getF B q).isNone)) ?_ ?_ _ _ _ ⟨[], Q, rfl, rfl, rfl, rfl⟩
      · rintro y rest M' acc ⟨as, bs, hab, hi, rfl, rfl⟩ ih
        refine ⟨getG1 (by simp), ?_⟩
        cases bs with
        | nil => cases hi
        | cons z bs =>
        unfold natD at hi
        rw [List.map_cons] at hi
        injection hi with hx' hr
        subst hx' hr
        try simp only [dSeq, dAsg, dgName, dgTup, dgCons, dgNil, dgSub, dRet, dRetN, dIfS, dDrop, dNext, dBreak, dCont, dAug, dVar, dC, dBin, dTest, dChain, dTru, dNotT, dAndT, dOrT, dAndV, dOrV, dNotV, dIf, dNil, dCons, dTup, dLst, dNewDict, dNeg, dCB, dBM, dBM0, dCall, dYes,   dSl, dNoPart, dPart, qSl, dBack, qBack, dFor, dISeq, dIRng1, dIRng2, dIZip, dLc, dDc,   qAdd, qInt, qInt0, qSub, qMul, qDiv, qMod, qPow, qLt, qLe, qGt, qGe, qIs, qIsNot, qIx, qLen, qAbs, qMax, qMin, qSum, qAll, qAny, qInt_, qStr_, qList_, qTuple_, qDict_, qIsi, qSet, iAdd, iSub, iMul, iDiv, iMod,   mAppend, mExtend, mPop, truD, tyN, isTy, seqD, lstD, keyD, isNonD,   kit_ii, kit_bi, kit_si, kit_ti, kit_li, kit_di, kit_ni, kit_ib, kit_bb, kit_sb, kit_tb, kit_lb, kit_nb, kit_is, kit_ss, kit_ts, kit_ls, kit_ns, kit_it, kit_st, kit_tt, kit_lt, kit_nt, kit_il, kit_tl, kit_ll, kit_dl, kit_nl, kit_dd, kit_nd, kit_ld,   startD, wipeD, List.map_cons, List.map_nil, List.length_cons, List.length_nil, Nat.reduceAdd, Nat.reduceSub, List.replicate_succ, List.replicate_zero, List.cons_append, List.nil_append, List.getElem?_cons_zero, List.getElem?_cons_succ, List.set_cons_zero, List.set_cons_succ,   List.length_append, List.length_set, set_get, Option.map_some, List.set_set, atI_0, atI_1, atI_2, atI_3, atI_4, atI_5, atI_6, List.append_assoc, Nat.add_assoc, getK, getK0, getL, setK, setK0, setL, List.length_map, mJoin, mIndex, mCount, mGet, strsOf, intsOf, blsOf, Option.bind_some, intsD_map, strsD_map, blsD_map, Option.isSome_some, szl, Nat.reduceLeDiff, qEq_ii, qNe_ii, Bool.not_true, Bool.not_false, decT, decF, dDelT, dDisp, dPairs, dFld, dFldS, dMeth, dMake, dIEnum, dAugK, dNever, dListRev, dListRg1, dPar, dListZip, dForD, mSetd, dRaise, dCallX, dMethX, dMakeX, dTryOnly, dTryAs, wipeE, qIsE, clsVal, clsVals, PySem.W.kitAny, eq_self, true_and]
        refine qNotIn_dic (by rw [getK0 (by simp)]; rfl) rfl ?_
        rw [val_builtD, Option.isSome_map]
        cases hz : getF B (z : Int) with
        | some v =>
          try simp only [dSeq, dAsg, dgName, dgTup, dgCons, dgNil, dgSub, dRet, dRetN, dIfS, dDrop, dNext, dBreak, dCont, dAug, dVar, dC, dBin, dTest, dChain, dTru, dNotT, dAndT, dOrT, dAndV, dOrV, dNotV, dIf, dNil, dCons, dTup, dLst, dNewDict, dNeg, dCB, dBM, dBM0, dCall, dYes,   dSl, dNoPart, dPart, qSl, dBack, qBack, dFor, dISeq, dIRng1, dIRng2, dIZip, dLc, dDc,   qAdd, qInt, qInt0, qSub, qMul, qDiv, qMod, qPow, qLt, qLe, qGt, qGe, qIs, qIsNot, qIx, qLen, qAbs, qMax, qMin, qSum, qAll, qAny, qInt_, qStr_, qList_, qTuple_, qDict_, qIsi, qSet, iAdd, iSub, iMul, iDiv, iMod,   mAppend, mExtend, mPop, truD, tyN, isTy, seqD, lstD, keyD, isNonD,   kit_ii, kit_bi, kit_si, kit_ti, kit_li, kit_di, kit_ni, kit_ib, kit_bb, kit_sb, kit_tb, kit_lb, kit_nb, kit_is, kit_ss, kit_ts, kit_ls, kit_ns, kit_it, kit_st, kit_tt, kit_lt, kit_nt, kit_il, kit_tl, kit_ll, kit_dl, kit_nl, kit_dd, kit_nd, kit_ld,   startD, wipeD, List.map_cons, List.map_nil, List.length_cons, List.length_nil, Nat.reduceAdd, Nat.reduceSub, List.replicate_succ, List.replicate_zero, List.cons_append, List.nil_append, List.getElem?_cons_zero, List.getElem?_cons_succ, List.set_cons_zero, List.set_cons_succ,   List.length_append, List.length_set, set_get, Option.map_some, List.set_set, atI_0, atI_1, atI_2, atI_3, atI_4, atI_5, atI_6, List.append_assoc, Nat.add_assoc, getK, getK0, getL, setK, setK0, setL, List.length_map, mJoin, mIndex, mCount, mGet, strsOf, intsOf, blsOf, Option.bind_some, intsD_map, strsD_map, blsD_map, Option.isSome_some, szl, Nat.reduceLeDiff, qEq_ii, qNe_ii, Bool.not_true, Bool.not_false, decT, decF, dDelT, dDisp, dPairs, dFld, dFldS, dMeth, dMake, dIEnum, dAugK, dNever, dListRev, dListRg1, dPar, dListZip, dForD, mSetd, dRaise, dCallX, dMethX, dMakeX, dTryOnly, dTryAs, wipeE, qIsE, clsVal, clsVals, PySem.W.kitAny, eq_self, true_and, Option.isSome_some]
          exact ih _ _ ⟨as ++ [z], bs, by rw [hab]; simp, rfl, rfl, by simp [List.filter_append, hz]⟩
        | none =>
          try simp only [dSeq, dAsg, dgName, dgTup, dgCons, dgNil, dgSub, dRet, dRetN, dIfS, dDrop, dNext, dBreak, dCont, dAug, dVar, dC, dBin, dTest, dChain, dTru, dNotT, dAndT, dOrT, dAndV, dOrV, dNotV, dIf, dNil, dCons, dTup, dLst, dNewDict, dNeg, dCB, dBM, dBM0, dCall, dYes,   dSl, dNoPart, dPart, qSl, dBack, qBack, dFor, dISeq, dIRng1, dIRng2, dIZip, dLc, dDc,   qAdd, qInt, qInt0, qSub, qMul, qDiv, qMod, qPow, qLt, qLe, qGt, qGe, qIs, qIsNot, qIx, qLen, qAbs, qMax, qMin, qSum, qAll, qAny, qInt_, qStr_, qList_, qTuple_, qDict_, qIsi, qSet, iAdd, iSub, iMul, iDiv, iMod,   mAppend, mExtend, mPop, truD, tyN, isTy, seqD, lstD, keyD, isNonD,   kit_ii, kit_bi, kit_si, kit_ti, kit_li, kit_di, kit_ni, kit_ib, kit_bb, kit_sb, kit_tb, kit_lb, kit_nb, kit_is, kit_ss, kit_ts, kit_ls, kit_ns, kit_it, kit_st, kit_tt, kit_lt, kit_nt, kit_il, kit_tl, kit_ll, kit_dl, kit_nl, kit_dd, kit_nd, kit_ld,   startD, wipeD, List.map_cons, List.map_nil, List.length_cons, List.length_nil, Nat.reduceAdd, Nat.reduceSub, List.replicate_succ, List.replicate_zero, List.cons_append, List.nil_append, List.getElem?_cons_zero, List.getElem?_cons_succ, List.set_cons_zero, List.set_cons_succ,   List.length_append, List.length_set, set_get, Option.map_some, List.set_set, atI_0, atI_1, atI_2, atI_3, atI_4, atI_5, atI_6, List.append_assoc, Nat.add_assoc, getK, getK0, getL, setK, setK0, setL, List.length_map, mJoin, mIndex, mCount, mGet, strsOf, intsOf, blsOf, Option.bind_some, intsD_map, strsD_map, blsD_map, Option.isSome_some, szl, Nat.reduceLeDiff, qEq_ii, qNe_ii, Bool.not_true, Bool.not_false, decT, decF, dDelT, dDisp, dPairs, dFld, dFldS, dMeth, dMake, dIEnum, dAugK, dNever, dListRev, dListRg1, dPar, dListZip, dForD, mSetd, dRaise, dCallX, dMethX, dMakeX, dTryOnly, dTryAs, wipeE, qIsE, clsVal, clsVals, PySem.W.kitAny, eq_self, true_and, Option.isSome_none]
          refine ⟨?_, ih _ _ ⟨as ++ [z], bs, by rw [hab]; simp, rfl, rfl, by simp [List.filter_append, hz, natD]⟩⟩
          rw [natD_len]
          have := List.length_filter_le (fun q : Nat => (getF B q).isNone) as
          have h5 := congrArg List.length hab
          rw [List.length_append] at h5
          have h6 := parts_size u
          have h7 := Tm.len_sizes u.parts
          omega
      · rintro M' acc ⟨as, bs, hab, hi, rfl, rfl⟩
        refine ⟨getG1 (by simp), ?_⟩
        have hbn : bs = [] := by
          cases bs with
          | nil => rfl
          | cons _ _ => cases hi
        subst hbn
        rw [List.append_nil] at hab
        subst hab
        generalize hlk : Q.filter (fun (q : Nat) => (getF B (q : Int)).isNone) = lack
        have hlm : ∀ q : Nat, q ∈ lack ↔ q ∈ Q ∧ getF B q = none := fun q => by
          rw [← hlk, List.mem_filter, Option.isNone_iff_eq_none]
        have hlkl : lack.length ≤ 2000 := by
          rw [← hlk]
          have := List.length_filter_le (fun q : Nat => (getF B q).isNone) Q
          have h6 := parts_size u
          have h7 := Tm.len_sizes u.parts
          omega
        cases lack with
        | nil =>
          have e2 : (natD []).isEmpty = true := rfl
          have hall : ∀ q ∈ Q, ∃ v, getF B q = some v := fun q hm => by
            cases e : getF B q with
            | some v => exact ⟨v, rfl⟩
            | none => have := (hlm q).mpr ⟨hm, e⟩; cases this
          have hf : ∀ (Ns : List Nat), natD (Ns ++ [x]) = natD Ns ++ [D.int (x : Nat)] := fun Ns => natD_append _ _
          have e3 : (natD W0 ++ [D.int (x : Nat)])[(natD W0).length + 1 - 1]? = some (D.int (x : Nat)) := by rw [Nat.add_sub_cancel]; simp
          have e4 : (natD W0 ++ [D.int (x : Nat)]).dropLast = natD W0 := List.dropLast_concat
          have fP : atI (List.map Tm.d P) (x : Int) = some u.d := atI_nat (by rw [List.getElem?_map, hu']; rfl)
          have hQ2 : Q.length ≤ 2000 := by
            have h6 := parts_size u
            have h7 := Tm.len_sizes u.parts
            omega
          have hkids : ∀ q : Nat, Kid P F L x q → (getF B q).isSome := fun q hq' => by
            obtain ⟨v, hv⟩ := hall q (hQa q hq')
            rw [hv]; rfl
          cases u with
          | var i =>
            have hQ0 : Q = [] := List.eq_nil_of_length_eq_zero hQ
            subst hQ0
            rw [Tm.d_var] at fP
            try simp only [dSeq, dAsg, dgName, dgTup, dgCons, dgNil, dgSub, dRet, dRetN, dIfS, dDrop, dNext, dBreak, dCont, dAug, dVar, dC, dBin, dTest, dChain, dTru, dNotT, dAndT, dOrT, dAndV, dOrV, dNotV, dIf, dNil, dCons, dTup, dLst, dNewDict, dNeg, dCB, dBM, dBM0, dCall, dYes,   dSl, dNoPart, dPart, qSl, dBack, qBack, dFor, dISeq, dIRng1, dIRng2, dIZip, dLc, dDc,   qAdd, qInt, qInt0, qSub, qMul, qDiv, qMod, qPow, qLt, qLe, qGt, qGe, qIs, qIsNot, qIx, qLen, qAbs, qMax, qMin, qSum, qAll, qAny, qInt_, qStr_, qList_, qTuple_, qDict_, qIsi, qSet, iAdd, iSub, iMul, iDiv, iMod,   mAppend, mExtend, mPop, truD, tyN, isTy, seqD, lstD, keyD, isNonD,   kit_ii, kit_bi, kit_si, kit_ti, kit_li, kit_di, kit_ni, kit_ib, kit_bb, kit_sb, kit_tb, kit_lb, kit_nb, kit_is, kit_ss, kit_ts, kit_ls, kit_ns, kit_it, kit_st, kit_tt, kit_lt, kit_nt, kit_il, kit_tl, kit_ll, kit_dl, kit_nl, kit_dd, kit_nd, kit_ld,   startD, wipeD, List.map_cons, List.map_nil, List.length_cons, List.length_nil, Nat.reduceAdd, Nat.reduceSub, List.replicate_succ, List.replicate_zero, List.cons_append, List.nil_append, List.getElem?_cons_zero, List.getElem?_cons_succ, List.set_cons_zero, List.set_cons_succ,   List.length_append, List.length_set, set_get, Option.map_some, List.set_set, atI_0, atI_1, atI_2, atI_3, atI_4, atI_5, atI_6, List.append_assoc, Nat.add_assoc, getK, getK0, getL, setK, setK0, setL, List.length_map, mJoin, mIndex, mCount, mGet, strsOf, intsOf, blsOf, Option.bind_some, intsD_map, strsD_map, blsD_map, Option.isSome_some, szl, Nat.reduceLeDiff, qEq_ii, qNe_ii, Bool.not_true, Bool.not_false, decT, decF, dDelT, dDisp, dPairs, dFld, dFldS, dMeth, dMake, dIEnum, dAugK, dNever, dListRev, dListRg1, dPar, dListZip, dForD, mSetd, dRaise, dCallX, dMethX, dMakeX, dTryOnly, dTryAs, wipeE, qIsE, clsVal, clsVals, PySem.W.kitAny, eq_self, true_and, e2, hf, e3, e4, (hJ1 _ _).1, (hJ1 _ _).2.1, jntF_1, fP]
            refine built_loop1 (l := M.length) (B := B) [] rfl (by simp) (by rw [getK0 (by simp)]; rfl) (getG1 (by simp)) (by decide) (fun q hq' => by cases hq') ?_
            have e5 : putD (builtD B) (Sum.inl (x : Int)) (.tup [.int i, .int (1 + [].sum)]) = builtD (putF B x (.var i)) := by
              rw [← put_builtD, Tm.d_var, Tm.size_var]
              rfl
            have hval : Val P F L x (.var i) := .var (.self (d := 0) ⟨rfl, hx⟩) hx hu'
            have e6 : topsOf B [] = [] := rfl
            rw [e6]
            try simp only [dSeq, dAsg, dgName, dgTup, dgCons, dgNil, dgSub, dRet, dRetN, dIfS, dDrop, dNext, dBreak, dCont, dAug, dVar, dC, dBin, dTest, dChain, dTru, dNotT, dAndT, dOrT, dAndV, dOrV, dNotV, dIf, dNil, dCons, dTup, dLst, dNewDict, dNeg, dCB, dBM, dBM0, dCall, dYes,   dSl, dNoPart, dPart, qSl, dBack, qBack, dFor, dISeq, dIRng1, dIRng2, dIZip, dLc, dDc,   qAdd, qInt, qInt0, qSub, qMul, qDiv, qMod, qPow, qLt, qLe, qGt, qGe, qIs, qIsNot, qIx, qLen, qAbs, qMax, qMin, qSum, qAll, qAny, qInt_, qStr_, qList_, qTuple_, qDict_, qIsi, qSet, iAdd, iSub, iMul, iDiv, iMod,   mAppend, mExtend, mPop, truD, tyN, isTy, seqD, lstD, keyD, isNonD,   kit_ii, kit_bi, kit_si, kit_ti, kit_li, kit_di, kit_ni, kit_ib, kit_bb, kit_sb, kit_tb, kit_lb, kit_nb, kit_is, kit_ss, kit_ts, kit_ls, kit_ns, kit_it, kit_st, kit_tt, kit_lt, kit_nt, kit_il, kit_tl, kit_ll, kit_dl, kit_nl, kit_dd, kit_nd, kit_ld,   startD, wipeD, List.map_cons, List.map_nil, List.length_cons, List.length_nil, Nat.reduceAdd, Nat.reduceSub, List.replicate_succ, List.replicate_zero, List.cons_append, List.nil_append, List.getElem?_cons_zero, List.getElem?_cons_succ, List.set_cons_zero, List.set_cons_succ,   List.length_append, List.length_set, set_get, Option.map_some, List.set_set, atI_0, atI_1, atI_2, atI_3, atI_4, atI_5, atI_6, List.append_assoc, Nat.add_assoc, getK, getK0, getL, setK, setK0, setL, List.length_map, mJoin, mIndex, mCount, mGet, strsOf, intsOf, blsOf, Option.bind_some, intsD_map, strsD_map, blsD_map, Option.isSome_some, szl, Nat.reduceLeDiff, qEq_ii, qNe_ii, Bool.not_true, Bool.not_false, decT, decF, dDelT, dDisp, dPairs, dFld, dFldS, dMeth, dMake, dIEnum, dAugK, dNever, dListRev, dListRg1, dPar, dListZip, dForD, mSetd, dRaise, dCallX, dMethX, dMakeX, dTryOnly, dTryAs, wipeE, qIsE, clsVal, clsVals, PySem.W.kitAny, eq_self, true_and, e5]
            have hbl : (builtD B).length = B.length := by unfold builtD; rw [List.length_map]
            rw [List.length_append, List.length_singleton] at hk hw
            exact ⟨by rw [hbl]; omega, k - 1, by omega, W0, putF B x (.var i), Z, L2, _, _, _, _, _, _, hs2, hb.pop hval hkids, by omega, by omega, rfl, by rw [← e5]⟩
          | app f ts =>
            rw [Tm.d_app] at fP
            try simp only [dSeq, dAsg, dgName, dgTup, dgCons, dgNil, dgSub, dRet, dRetN, dIfS, dDrop, dNext, dBreak, dCont, dAug, dVar, dC, dBin, dTest, dChain, dTru, dNotT, dAndT, dOrT, dAndV, dOrV, dNotV, dIf, dNil, dCons, dTup, dLst, dNewDict, dNeg, dCB, dBM, dBM0, dCall, dYes,   dSl, dNoPart, dPart, qSl, dBack, qBack, dFor, dISeq, dIRng1, dIRng2, dIZip, dLc, dDc,   qAdd, qInt, qInt0, qSub, qMul, qDiv, qMod, qPow, qLt, qLe, qGt, qGe, qIs, qIsNot, qIx, qLen, qAbs, qMax, qMin, qSum, qAll, qAny, qInt_, qStr_, qList_, qTuple_, qDict_, qIsi, qSet, iAdd, iSub, iMul, iDiv, iMod,   mAppend, mExtend, mPop, truD, tyN, isTy, seqD, lstD, keyD, isNonD,   kit_ii, kit_bi, kit_si, kit_ti, kit_li, kit_di, kit_ni, kit_ib, kit_bb, kit_sb, kit_tb, kit_lb, kit_nb, kit_is, kit_ss, kit_ts, kit_ls, kit_ns, kit_it, kit_st, kit_tt, kit_lt, kit_nt, kit_il, kit_tl, kit_ll, kit_dl, kit_nl, kit_dd, kit_nd, kit_ld,   startD, wipeD, List.map_cons, List.map_nil, List.length_cons, List.length_nil, Nat.reduceAdd, Nat.reduceSub, List.replicate_succ, List.replicate_zero, List.cons_append, List.nil_append, List.getElem?_cons_zero, List.getElem?_cons_succ, List.set_cons_zero, List.set_cons_succ,   List.length_append, List.length_set, set_get, Option.map_some, List.set_set, atI_0, atI_1, atI_2, atI_3, atI_4, atI_5, atI_6, List.append_assoc, Nat.add_assoc, getK, getK0, getL, setK, setK0, setL, List.length_map, mJoin, mIndex, mCount, mGet, strsOf, intsOf, blsOf, Option.bind_some, intsD_map, strsD_map, blsD_map, Option.isSome_some, szl, Nat.reduceLeDiff, qEq_ii, qNe_ii, Bool.not_true, Bool.not_false, decT, decF, dDelT, dDisp, dPairs, dFld, dFldS, dMeth, dMake, dIEnum, dAugK, dNever, dListRev, dListRg1, dPar, dListZip, dForD, mSetd, dRaise, dCallX, dMethX, dMakeX, dTryOnly, dTryAs, wipeE, qIsE, clsVal, clsVals, PySem.W.kitAny, eq_self, true_and, e2, hf, e3, e4, (hJ1 _ _).1, (hJ1 _ _).2.1, jntF_1, fP]
            refine built_loop (l := M.length) (B := B) Q rfl (by simp) (by rw [getK0 (by simp)]; rfl) (getG1 (by simp)) hQ2 hall ?_
            have e5 : putD (builtD B) (Sum.inl (x : Int)) (.tup [.tup (.str f :: (topsOf B Q).map Tm.d), .int (1 + (Tm.sizes (topsOf B Q) : Nat))]) = builtD (putF B x (.app f (topsOf B Q))) := by
              rw [← put_builtD, Tm.d_app, Tm.size_app, Int.natCast_add]
              rfl
            have hval : Val P F L x (.app f (topsOf B Q)) := Kids.val hb.bt hx hu' ho hQ (fun k q h => (hq k q h).1) (topsOf_len ..) fun k q v hk1 hk2 => by
              unfold topsOf at hk2
              rw [List.getElem?_map, hk1] at hk2
              obtain ⟨v', hv'⟩ := hall q (List.mem_of_getElem? hk1)
              rw [Option.map_some, hv'] at hk2
              rw [hv']
              exact hk2
            try simp only [dSeq, dAsg, dgName, dgTup, dgCons, dgNil, dgSub, dRet, dRetN, dIfS, dDrop, dNext, dBreak, dCont, dAug, dVar, dC, dBin, dTest, dChain, dTru, dNotT, dAndT, dOrT, dAndV, dOrV, dNotV, dIf, dNil, dCons, dTup, dLst, dNewDict, dNeg, dCB, dBM, dBM0, dCall, dYes,   dSl, dNoPart, dPart, qSl, dBack, qBack, dFor, dISeq, dIRng1, dIRng2, dIZip, dLc, dDc,   qAdd, qInt, qInt0, qSub, qMul, qDiv, qMod, qPow, qLt, qLe, qGt, qGe, qIs, qIsNot, qIx, qLen, qAbs, qMax, qMin, qSum, qAll, qAny, qInt_, qStr_, qList_, qTuple_, qDict_, qIsi, qSet, iAdd, iSub, iMul, iDiv, iMod,   mAppend, mExtend, mPop, truD, tyN, isTy, seqD, lstD, keyD, isNonD,   kit_ii, kit_bi, kit_si, kit_ti, kit_li, kit_di, kit_ni, kit_ib, kit_bb, kit_sb, kit_tb, kit_lb, kit_nb, kit_is, kit_ss, kit_ts, kit_ls, kit_ns, kit_it, kit_st, kit_tt, kit_lt, kit_nt, kit_il, kit_tl, kit_ll, kit_dl, kit_nl, kit_dd, kit_nd, kit_ld,   startD, wipeD, List.map_cons, List.map_nil, List.length_cons, List.length_nil, Nat.reduceAdd, Nat.reduceSub, List.replicate_succ, List.replicate_zero, List.cons_append, List.nil_append, List.getElem?_cons_zero, List.getElem?_cons_succ, List.set_cons_zero, List.set_cons_succ,   List.length_append, List.length_set, set_get, Option.map_some, List.set_set, atI_0, atI_1, atI_2, atI_3, atI_4, atI_5, atI_6, List.append_assoc, Nat.add_assoc, getK, getK0, getL, setK, setK0, setL, List.length_map, mJoin, mIndex, mCount, mGet, strsOf, intsOf, blsOf, Option.bind_some, intsD_map, strsD_map, blsD_map, Option.isSome_some, szl, Nat.reduceLeDiff, qEq_ii, qNe_ii, Bool.not_true, Bool.not_false, decT, decF, dDelT, dDisp, dPairs, dFld, dFldS, dMeth, dMake, dIEnum, dAugK, dNever, dListRev, dListRg1, dPar, dListZip, dForD, mSetd, dRaise, dCallX, dMethX, dMakeX, dTryOnly, dTryAs, wipeE, qIsE, clsVal, clsVals, PySem.W.kitAny, eq_self, true_and, getG1, List.length_set]
            refine ⟨by rw [topsOf_len]; omega, ?_⟩
            refine built_loop1 (l := M.length) (B := B) Q rfl (by simp) (by rw [getK0 (by simp)]; rfl) (getG1 (by simp)) hQ2 hall ?_
            have hsum : (List.map (fun u : Tm => ((u.size : Nat) : Int)) (topsOf B Q)).sum = (Tm.sizes (topsOf B Q) : Nat) := Tm.sizes_sum _
            try simp only [dSeq, dAsg, dgName, dgTup, dgCons, dgNil, dgSub, dRet, dRetN, dIfS, dDrop, dNext, dBreak, dCont, dAug, dVar, dC, dBin, dTest, dChain, dTru, dNotT, dAndT, dOrT, dAndV, dOrV, dNotV, dIf, dNil, dCons, dTup, dLst, dNewDict, dNeg, dCB, dBM, dBM0, dCall, dYes,   dSl, dNoPart, dPart, qSl, dBack, qBack, dFor, dISeq, dIRng1, dIRng2, dIZip, dLc, dDc,   qAdd, qInt, qInt0, qSub, qMul, qDiv, qMod, qPow, qLt, qLe, qGt, qGe, qIs, qIsNot, qIx, qLen, qAbs, qMax, qMin, qSum, qAll, qAny, qInt_, qStr_, qList_, qTuple_, qDict_, qIsi, qSet, iAdd, iSub, iMul, iDiv, iMod,   mAppend, mExtend, mPop, truD, tyN, isTy, seqD, lstD, keyD, isNonD,   kit_ii, kit_bi, kit_si, kit_ti, kit_li, kit_di, kit_ni, kit_ib, kit_bb, kit_sb, kit_tb, kit_lb, kit_nb, kit_is, kit_ss, kit_ts, kit_ls, kit_ns, kit_it, kit_st, kit_tt, kit_lt, kit_nt, kit_il, kit_tl, kit_ll, kit_dl, kit_nl, kit_dd, kit_nd, kit_ld,   startD, wipeD, List.map_cons, List.map_nil, List.length_cons, List.length_nil, Nat.reduceAdd, Nat.reduceSub, List.replicate_succ, List.replicate_zero, List.cons_append, List.nil_append, List.getElem?_cons_zero, List.getElem?_cons_succ, List.set_cons_zero, List.set_cons_succ,   List.length_append, List.length_set, set_get, Option.map_some, List.set_set, atI_0, atI_1, atI_2, atI_3, atI_4, atI_5, atI_6, List.append_assoc, Nat.add_assoc, getK, getK0, getL, setK, setK0, setL, List.length_map, mJoin, mIndex, mCount, mGet, strsOf, intsOf, blsOf, Option.bind_some, intsD_map, strsD_map, blsD_map, Option.isSome_some, szl, Nat.reduceLeDiff, qEq_ii, qNe_ii, Bool.not_true, Bool.not_false, decT, decF, dDelT, dDisp, dPairs, dFld, dFldS, dMeth, dMake, dIEnum, dAugK, dNever, dListRev, dListRg1, dPar, dListZip, dForD, mSetd, dRaise, dCallX, dMethX, dMakeX, dTryOnly, dTryAs, wipeE, qIsE, clsVal, clsVals, PySem.W.kitAny, eq_self, true_and, hsum, e5]
            have hbl : (builtD B).length = B.length := by unfold builtD; rw [List.length_map]
            rw [List.length_append, List.length_singleton] at hk hw
            exact ⟨by rw [hbl]; omega, k - 1, by omega, W0, putF B x (.app f (topsOf B Q)), Z, L2, _, _, _, _, _, _, hs2, hb.pop hval hkids, by omega, by omega, rfl, rfl⟩
        | cons l0 lack =>
          have e2 : (natD (l0 :: lack)).isEmpty = false := rfl
          try simp only [dSeq, dAsg, dgName, dgTup, dgCons, dgNil, dgSub, dRet, dRetN, dIfS, dDrop, dNext, dBreak, dCont, dAug, dVar, dC, dBin, dTest, dChain, dTru, dNotT, dAndT, dOrT, dAndV, dOrV, dNotV, dIf, dNil, dCons, dTup, dLst, dNewDict, dNeg, dCB, dBM, dBM0, dCall, dYes,   dSl, dNoPart, dPart, qSl, dBack, qBack, dFor, dISeq, dIRng1, dIRng2, dIZip, dLc, dDc,   qAdd, qInt, qInt0, qSub, qMul, qDiv, qMod, qPow, qLt, qLe, qGt, qGe, qIs, qIsNot, qIx, qLen, qAbs, qMax, qMin, qSum, qAll, qAny, qInt_, qStr_, qList_, qTuple_, qDict_, qIsi, qSet, iAdd, iSub, iMul, iDiv, iMod,   mAppend, mExtend, mPop, truD, tyN, isTy, seqD, lstD, keyD, isNonD,   kit_ii, kit_bi, kit_si, kit_ti, kit_li, kit_di, kit_ni, kit_ib, kit_bb, kit_sb, kit_tb, kit_lb, kit_nb, kit_is, kit_ss, kit_ts, kit_ls, kit_ns, kit_it, kit_st, kit_tt, kit_lt, kit_nt, kit_il, kit_tl, kit_ll, kit_dl, kit_nl, kit_dd, kit_nd, kit_ld,   startD, wipeD, List.map_cons, List.map_nil, List.length_cons, List.length_nil, Nat.reduceAdd, Nat.reduceSub, List.replicate_succ, List.replicate_zero, List.cons_append, List.nil_append, List.getElem?_cons_zero, List.getElem?_cons_succ, List.set_cons_zero, List.set_cons_succ,   List.length_append, List.length_set, set_get, Option.map_some, List.set_set, atI_0, atI_1, atI_2, atI_3, atI_4, atI_5, atI_6, List.append_assoc, Nat.add_assoc, getK, getK0, getL, setK, setK0, setL, List.length_map, mJoin, mIndex, mCount, mGet, strsOf, intsOf, blsOf, Option.bind_some, intsD_map, strsD_map, blsD_map, Option.isSome_some, szl, Nat.reduceLeDiff, qEq_ii, qNe_ii, Bool.not_true, Bool.not_false, decT, decF, dDelT, dDisp, dPairs, dFld, dFldS, dMeth, dMake, dIEnum, dAugK, dNever, dListRev, dListRg1, dPar, dListZip, dForD, mSetd, dRaise, dCallX, dMethX, dMakeX, dTryOnly, dTryAs, wipeE, qIsE, clsVal, clsVals, PySem.W.kitAny, eq_self, true_and, e2]
          refine qIn_dic (by rw [getK (by simp)]; rfl) rfl ?_
          rw [val_trues]
          by_cases hz : (x : Int) ∈ Z
          · rw [decide_eq_true hz]
            try simp only [dSeq, dAsg, dgName, dgTup, dgCons, dgNil, dgSub, dRet, dRetN, dIfS, dDrop, dNext, dBreak, dCont, dAug, dVar, dC, dBin, dTest, dChain, dTru, dNotT, dAndT, dOrT, dAndV, dOrV, dNotV, dIf, dNil, dCons, dTup, dLst, dNewDict, dNeg, dCB, dBM, dBM0, dCall, dYes,   dSl, dNoPart, dPart, qSl, dBack, qBack, dFor, dISeq, dIRng1, dIRng2, dIZip, dLc, dDc,   qAdd, qInt, qInt0, qSub, qMul, qDiv, qMod, qPow, qLt, qLe, qGt, qGe, qIs, qIsNot, qIx, qLen, qAbs, qMax, qMin, qSum, qAll, qAny, qInt_, qStr_, qList_, qTuple_, qDict_, qIsi, qSet, iAdd, iSub, iMul, iDiv, iMod,   mAppend, mExtend, mPop, truD, tyN, isTy, seqD, lstD, keyD, isNonD,   kit_ii, kit_bi, kit_si, kit_ti, kit_li, kit_di, kit_ni, kit_ib, kit_bb, kit_sb, kit_tb, kit_lb, kit_nb, kit_is, kit_ss, kit_ts, kit_ls, kit_ns, kit_it, kit_st, kit_tt, kit_lt, kit_nt, kit_il, kit_tl, kit_ll, kit_dl, kit_nl, kit_dd, kit_nd, kit_ld,   startD, wipeD, List.map_cons, List.map_nil, List.length_cons, List.length_nil, Nat.reduceAdd, Nat.reduceSub, List.replicate_succ, List.replicate_zero, List.cons_append, List.nil_append, List.getElem?_cons_zero, List.getElem?_cons_succ, List.set_cons_zero, List.set_cons_succ,   List.length_append, List.length_set, set_get, Option.map_some, List.set_set, atI_0, atI_1, atI_2, atI_3, atI_4, atI_5, atI_6, List.append_assoc, Nat.add_assoc, getK, getK0, getL, setK, setK0, setL, List.length_map, mJoin, mIndex, mCount, mGet, strsOf, intsOf, blsOf, Option.bind_some, intsD_map, strsD_map, blsD_map, Option.isSome_some, szl, Nat.reduceLeDiff, qEq_ii, qNe_ii, Bool.not_true, Bool.not_false, decT, decF, dDelT, dDisp, dPairs, dFld, dFldS, dMeth, dMake, dIEnum, dAugK, dNever, dListRev, dListRg1, dPar, dListZip, dForD, mSetd, dRaise, dCallX, dMethX, dMakeX, dTryOnly, dTryAs, wipeE, qIsE, clsVal, clsVals, PySem.W.kitAny, eq_self, true_and]
            have hl0 := (hlm l0).mp (List.mem_cons_self ..)
            refine Done.old (okM_set hM (o := .lst (natD L2)) (natD_ok _ _)) (takeK (by simp)) rfl (qn (hb.circle J hz (hQk l0 hl0.1) hl0.2) L2)
          · rw [decide_eq_false hz]
            try simp only [dSeq, dAsg, dgName, dgTup, dgCons, dgNil, dgSub, dRet, dRetN, dIfS, dDrop, dNext, dBreak, dCont, dAug, dVar, dC, dBin, dTest, dChain, dTru, dNotT, dAndT, dOrT, dAndV, dOrV, dNotV, dIf, dNil, dCons, dTup, dLst, dNewDict, dNeg, dCB, dBM, dBM0, dCall, dYes,   dSl, dNoPart, dPart, qSl, dBack, qBack, dFor, dISeq, dIRng1, dIRng2, dIZip, dLc, dDc,   qAdd, qInt, qInt0, qSub, qMul, qDiv, qMod, qPow, qLt, qLe, qGt, qGe, qIs, qIsNot, qIx, qLen, qAbs, qMax, qMin, qSum, qAll, qAny, qInt_, qStr_, qList_, qTuple_, qDict_, qIsi, qSet, iAdd, iSub, iMul, iDiv, iMod,   mAppend, mExtend, mPop, truD, tyN, isTy, seqD, lstD, keyD, isNonD,   kit_ii, kit_bi, kit_si, kit_ti, kit_li, kit_di, kit_ni, kit_ib, kit_bb, kit_sb, kit_tb, kit_lb, kit_nb, kit_is, kit_ss, kit_ts, kit_ls, kit_ns, kit_it, kit_st, kit_tt, kit_lt, kit_nt, kit_il, kit_tl, kit_ll, kit_dl, kit_nl, kit_dd, kit_nd, kit_ld,   startD, wipeD, List.map_cons, List.map_nil, List.length_cons, List.length_nil, Nat.reduceAdd, Nat.reduceSub, List.replicate_succ, List.replicate_zero, List.cons_append, List.nil_append, List.getElem?_cons_zero, List.getElem?_cons_succ, List.set_cons_zero, List.set_cons_succ,   List.length_append, List.length_set, set_get, Option.map_some, List.set_set, atI_0, atI_1, atI_2, atI_3, atI_4, atI_5, atI_6, List.append_assoc, Nat.add_assoc, getK, getK0, getL, setK, setK0, setL, List.length_map, mJoin, mIndex, mCount, mGet, strsOf, intsOf, blsOf, Option.bind_some, intsD_map, strsD_map, blsD_map, Option.isSome_some, szl, Nat.reduceLeDiff, qEq_ii, qNe_ii, Bool.not_true, Bool.not_false, decT, decF, dDelT, dDisp, dPairs, dFld, dFldS, dMeth, dMake, dIEnum, dAugK, dNever, dListRev, dListRg1, dPar, dListZip, dForD, mSetd, dRaise, dCallX, dMethX, dMakeX, dTryOnly, dTryAs, wipeE, qIsE, clsVal, clsVals, PySem.W.kitAny, eq_self, true_and, putD_true]
            have hb2 := hb.begin J hz (lack := l0 :: lack) (fun q hq' => hQk q ((hlm q).mp hq').1) (fun q hq' => by
              cases e : getF B (q : Int) with
              | some v => exact .inl rfl
              | none => exact .inr ((hlm q).mpr ⟨hQa q hq', e⟩))
            have hz2 := hb2.zlen
            have hzl2 : (addNew Z (x : Int)).length = Z.length + 1 := by unfold addNew; rw [if_neg hz, List.length_append]; rfl
            have htl : (trues Z).length = Z.length := by unfold trues; rw [List.length_map]
            have hwl : (W0 ++ [x] ++ l0 :: lack).length = W0.length + 1 + (l0 :: lack).length := by rw [List.length_append, List.length_append]; rfl
            have hwl2 : (W0 ++ [x]).length = W0.length + 1 := by rw [List.length_append]; rfl
            rw [hwl2] at hk hw
            refine ⟨by rw [htl]; omega, by rw [natD_len, natD_len, hwl2]; omega, k - 10000 + (l0 :: lack).length, by omega, W0 ++ [x] ++ l0 :: lack, B, addNew Z x, L2, G ++ [MO.lst (natD I), MO.lst (natD Q), MO.lst (natD (l0 :: lack))], _, _, _, _, _, hs2, hb2, by rw [hzl2, hwl]; omega, by rw [hzl2, hwl]; omega, rfl, by rw [natD_append (W0 ++ [x])]⟩
end
section
variable {P : Program} {w : World} {K : PySem.W.Frag} {mg : Str → Option Value} {base : Heap}
def sp_met : DSp := fun ds M Q E => ∃ (s t : Tm) (most : Int), ds = [s.d, t.d, .int most] ∧ s.size + t.size ≤ 2000 ∧ s.Nm NameOk ∧ t.Nm NameOk ∧
  (∀ θ, Mgu s t θ → (∀ i u, getF θ i = some u → (u.size : Int) ≤ most) → Q (.loc M.length) (M ++ [.dic (flD θ)])) ∧ ((∀ θ : Fl, s.fill θ ≠ t.fill θ) → Q .non M) ∧
  (∀ (i : Int) (u : Tm), (∃ θ, Mgu s t θ) → most < (u.size : Int) → (∀ θ : Fl, s.fill θ = t.fill θ → u.fill θ = (Tm.var i).fill θ) → ∀ X, E (He.ga K "TooHeavy") (M ++ X))
theorem fn_met (T : Top K mg) : DFn P w K mg base (L2.CX P w) 5 "met" ["one", "other", "most"] (sp_met (K := K)) := by
  have F_Joint___init__ := fn_jinit (P := P) (w := w) (base := base) T
  have F_Joint_join_both := fn_join (P := P) (w := w) (base := base) T
  have F__built := fn_built (P := P) (w := w) (base := base) T
  have F_Joint_top := fn_jtop (P := P) (w := w) (base := base) T
  obtain ⟨fd, F⟩ := T.d_met
  have sc := sc_met
  refine DFn.ofX (k := 4) F T.g_met (FunD.bindsN F fun _ _ _ _ _ _ us hl => match us, hl with | [_, _, _], _ => rfl) sc ?len ⟨fun EdX => _, fun cdv A outer s H E m0 hr EdX tk po => (
      (dss_cons (ds_set 3 sc.nd (de_make F_Joint___init__ (hr.mono (by omega)) pass0 (da_cons (de_var 0) (da_cons (de_var 1) da_nil))))
      (dss_cons (ds_if (dt_not (dt_e (de_meth0 F_Joint_join_both (hr.mono (by omega)) pass0 (de_var 3)))) (dss_one (ds_ret de_non)) dss_nil)
      (dss_cons (ds_set 4 sc.nd (de_call F__built (hr.mono (by omega)) pass0 (da_cons (de_var 3) da_nil)))
      (dss_cons (ds_if (dt_cmp dop_is (de_var 4) de_non) (dss_one (ds_ret de_non)) dss_nil)
      (dss_cons (ds_set 5 sc.nd de_dict0)
      (dss_cons (ds_for po rfl (di_enum T.n_enumerate (da_cons (de_fld T.c_Joint T.a_Joint_parts (de_var 3)) da_nil)) (dg_tup (n := 2) rfl (dgs_cons (dg_name 6 sc.nd) (dgs_cons (dg_name 7 sc.nd) dgs_nil))) (dss_one (ds_if (dt_e (de_cb T.n_isinstance dc_isi b_isinstance (da_cons (de_var 7) (da_cons (de_ty T.n_int b_int) da_nil)))) (dss_cons (ds_asg (de_ix hr (de_var 4) (de_meth F_Joint_top (hr.mono (by omega)) pass0 (de_var 3) (da_cons (de_var 6) da_nil))) (dg_tup (n := 2) rfl (dgs_cons (dg_name 8 sc.nd) (dgs_cons (dg_name 9 sc.nd) dgs_nil))))
      (dss_one (ds_if (dt_cmp (dop_ne hr) (de_var 8) (de_var 7)) (dss_cons (ds_if (dt_cmp dop_gt (de_var 9) (de_var 2)) (dss_one (ds_raise rfl tk T.e_TooHeavy T.g_TooHeavy)) dss_nil)
      (dss_one (ds_asg (de_var 8) (dg_sub hr (de_var 5) (de_var 7))))) dss_nil))) dss_nil)))
      (dss_one (ds_ret (de_var 5)))))))))), ?_⟩
  case len =>
    rintro ds M Q E ⟨s, t, most, rfl, _⟩
    rfl
  rintro ds M Qd Ed ⟨s, t, most, rfl, hz, hsn, htn, q, qn, qe⟩ hM
  have hno1 : ∀ a b c : Nat, (jntF (.loc a) (.loc b) (.loc c)).lookup (Str.ofString "join_both") = none := fun a b c => jnt_no (by decide +kernel) (by decide +kernel) (by decide +kernel)
  have hno2 : ∀ a b c : Nat, (jntF (.loc a) (.loc b) (.loc c)).lookup (Str.ofString "top") = none := fun a b c => jnt_no (by decide +kernel) (by decide +kernel) (by decide +kernel)
  try simp only [dSeq, dAsg, dgName, dgTup, dgCons, dgNil, dgSub, dRet, dRetN, dIfS, dDrop, dNext, dBreak, dCont, dAug, dVar, dC, dBin, dTest, dChain, dTru, dNotT, dAndT, dOrT, dAndV, dOrV, dNotV, dIf, dNil, dCons, dTup, dLst, dNewDict, dNeg, dCB, dBM, dBM0, dCall, dYes,   dSl, dNoPart, dPart, qSl, dBack, qBack, dFor, dISeq, dIRng1, dIRng2, dIZip, dLc, dDc,   qAdd, qInt, qInt0, qSub, qMul, qDiv, qMod, qPow, qLt, qLe, qGt, qGe, qIs, qIsNot, qIx, qLen, qAbs, qMax, qMin, qSum, qAll, qAny, qInt_, qStr_, qList_, qTuple_, qDict_, qIsi, qSet, iAdd, iSub, iMul, iDiv, iMod,   mAppend, mExtend, mPop, truD, tyN, isTy, seqD, lstD, keyD, isNonD,   kit_ii, kit_bi, kit_si, kit_ti, kit_li, kit_di, kit_ni, kit_ib, kit_bb, kit_sb, kit_tb, kit_lb, kit_nb, kit_is, kit_ss, kit_ts, kit_ls, kit_ns, kit_it, kit_st, kit_tt, kit_lt, kit_nt, kit_il, kit_tl, kit_ll, kit_dl, kit_nl, kit_dd, kit_nd, kit_ld,   startD, wipeD, List.map_cons, List.map_nil, List.length_cons, List.length_nil, Nat.reduceAdd, Nat.reduceSub, List.replicate_succ, List.replicate_zero, List.cons_append, List.nil_append, List.getElem?_cons_zero, List.getElem?_cons_succ, List.set_cons_zero, List.set_cons_succ,   List.length_append, List.length_set, set_get, Option.map_some, List.set_set, atI_0, atI_1, atI_2, atI_3, atI_4, atI_5, atI_6, List.append_assoc, Nat.add_assoc, getK, getK0, getL, setK, setK0, setL, List.length_map, mJoin, mIndex, mCount, mGet, strsOf, intsOf, blsOf, Option.bind_some, intsD_map, strsD_map, blsD_map, Option.isSome_some, szl, Nat.reduceLeDiff, qEq_ii, qNe_ii, Bool.not_true, Bool.not_false, decT, decF, dDelT, dDisp, dPairs, dFld, dFldS, dMeth, dMake, dIEnum, dAugK, dNever, dListRev, dListRg1, dPar, dListZip, dForD, mSetd, dRaise, dCallX, dMethX, dMakeX, dTryOnly, dTryAs, wipeE, qIsE, clsVal, clsVals, PySem.W.kitAny, eq_self, true_and]
  refine ⟨M.length, s, t, rfl, by simp, by omega, fun P F hl => ?_⟩
  have hJ0 : ∀ (L : List Nat) (X : Mem), JntAt K (M ++ (.ins (He.ga K "Joint") (jntF (.loc (M.length + 1)) (.loc (M.length + 2)) (.loc (M.length + 3))) :: .lst (P.map Tm.d) :: .lst (natD F) :: .lst (natD L) :: X)) M.length (M.length + 1) (M.length + 2) (M.length + 3) P F L := fun L X =>
    ⟨by rw [getK0 rfl]; rfl, by rw [getK rfl]; rfl, by rw [getK rfl]; rfl, by rw [getK rfl]; rfl⟩
  have hPl := hl.len_le
  have hPu : ∀ u ∈ P, u.Nm NameOk ∧ u.size ≤ 2000 := hl.all (R := fun u => u.Nm NameOk ∧ u.size ≤ 2000) ⟨hsn, by omega⟩ ⟨htn, by omega⟩ fun f ts hf u hu => by
    refine ⟨?_, ?_⟩
    · cases hf.1 with
      | app _ h => exact h u hu
    · have h1 := hf.2
      have h2 := Tm.size_mem hu
      rw [Tm.size_app] at h1
      omega
  try simp only [dSeq, dAsg, dgName, dgTup, dgCons, dgNil, dgSub, dRet, dRetN, dIfS, dDrop, dNext, dBreak, dCont, dAug, dVar, dC, dBin, dTest, dChain, dTru, dNotT, dAndT, dOrT, dAndV, dOrV, dNotV, dIf, dNil, dCons, dTup, dLst, dNewDict, dNeg, dCB, dBM, dBM0, dCall, dYes,   dSl, dNoPart, dPart, qSl, dBack, qBack, dFor, dISeq, dIRng1, dIRng2, dIZip, dLc, dDc,   qAdd, qInt, qInt0, qSub, qMul, qDiv, qMod, qPow, qLt, qLe, qGt, qGe, qIs, qIsNot, qIx, qLen, qAbs, qMax, qMin, qSum, qAll, qAny, qInt_, qStr_, qList_, qTuple_, qDict_, qIsi, qSet, iAdd, iSub, iMul, iDiv, iMod,   mAppend, mExtend, mPop, truD, tyN, isTy, seqD, lstD, keyD, isNonD,   kit_ii, kit_bi, kit_si, kit_ti, kit_li, kit_di, kit_ni, kit_ib, kit_bb, kit_sb, kit_tb, kit_lb, kit_nb, kit_is, kit_ss, kit_ts, kit_ls, kit_ns, kit_it, kit_st, kit_tt, kit_lt, kit_nt, kit_il, kit_tl, kit_ll, kit_dl, kit_nl, kit_dd, kit_nd, kit_ld,   startD, wipeD, List.map_cons, List.map_nil, List.length_cons, List.length_nil, Nat.reduceAdd, Nat.reduceSub, List.replicate_succ, List.replicate_zero, List.cons_append, List.nil_append, List.getElem?_cons_zero, List.getElem?_cons_succ, List.set_cons_zero, List.set_cons_succ,   List.length_append, List.length_set, set_get, Option.map_some, List.set_set, atI_0, atI_1, atI_2, atI_3, atI_4, atI_5, atI_6, List.append_assoc, Nat.add_assoc, getK, getK0, getL, setK, setK0, setL, List.length_map, mJoin, mIndex, mCount, mGet, strsOf, intsOf, blsOf, Option.bind_some, intsD_map, strsD_map, blsD_map, Option.isSome_some, szl, Nat.reduceLeDiff, qEq_ii, qNe_ii, Bool.not_true, Bool.not_false, decT, decF, dDelT, dDisp, dPairs, dFld, dFldS, dMeth, dMake, dIEnum, dAugK, dNever, dListRev, dListRg1, dPar, dListZip, dForD, mSetd, dRaise, dCallX, dMethX, dMakeX, dTryOnly, dTryAs, wipeE, qIsE, clsVal, clsVals, PySem.W.kitAny, eq_self, true_and, (hJ0 _ _).1, hno1]
  have hset : ∀ (L L' : List Nat) (X : Mem), (M ++ (MO.ins (He.ga K "Joint") (jntF (.loc (M.length + 1)) (.loc (M.length + 2)) (.loc (M.length + 3))) :: .lst (P.map Tm.d) :: .lst (natD F) :: .lst (natD L) :: X)).set (M.length + 3) (.lst (natD L')) = M ++ (MO.ins (He.ga K "Joint") (jntF (.loc (M.length + 1)) (.loc (M.length + 2)) (.loc (M.length + 3))) :: .lst (P.map Tm.d) :: .lst (natD F) :: .lst (natD L') :: X) := fun L L' X => by
    rw [setK rfl]
    rfl
  refine ⟨M.length, M.length + 1, M.length + 2, M.length + 3, s, t, P, F, rfl, hJ0 _ [], by omega, by omega, by omega, hl, by omega, hPu, fun L J => ?_, fun hno L => ?_⟩
  · rw [hset]
    try simp only [dSeq, dAsg, dgName, dgTup, dgCons, dgNil, dgSub, dRet, dRetN, dIfS, dDrop, dNext, dBreak, dCont, dAug, dVar, dC, dBin, dTest, dChain, dTru, dNotT, dAndT, dOrT, dAndV, dOrV, dNotV, dIf, dNil, dCons, dTup, dLst, dNewDict, dNeg, dCB, dBM, dBM0, dCall, dYes,   dSl, dNoPart, dPart, qSl, dBack, qBack, dFor, dISeq, dIRng1, dIRng2, dIZip, dLc, dDc,   qAdd, qInt, qInt0, qSub, qMul, qDiv, qMod, qPow, qLt, qLe, qGt, qGe, qIs, qIsNot, qIx, qLen, qAbs, qMax, qMin, qSum, qAll, qAny, qInt_, qStr_, qList_, qTuple_, qDict_, qIsi, qSet, iAdd, iSub, iMul, iDiv, iMod,   mAppend, mExtend, mPop, truD, tyN, isTy, seqD, lstD, keyD, isNonD,   kit_ii, kit_bi, kit_si, kit_ti, kit_li, kit_di, kit_ni, kit_ib, kit_bb, kit_sb, kit_tb, kit_lb, kit_nb, kit_is, kit_ss, kit_ts, kit_ls, kit_ns, kit_it, kit_st, kit_tt, kit_lt, kit_nt, kit_il, kit_tl, kit_ll, kit_dl, kit_nl, kit_dd, kit_nd, kit_ld,   startD, wipeD, List.map_cons, List.map_nil, List.length_cons, List.length_nil, Nat.reduceAdd, Nat.reduceSub, List.replicate_succ, List.replicate_zero, List.cons_append, List.nil_append, List.getElem?_cons_zero, List.getElem?_cons_succ, List.set_cons_zero, List.set_cons_succ,   List.length_append, List.length_set, set_get, Option.map_some, List.set_set, atI_0, atI_1, atI_2, atI_3, atI_4, atI_5, atI_6, List.append_assoc, Nat.add_assoc, getK, getK0, getL, setK, setK0, setL, List.length_map, mJoin, mIndex, mCount, mGet, strsOf, intsOf, blsOf, Option.bind_some, intsD_map, strsD_map, blsD_map, Option.isSome_some, szl, Nat.reduceLeDiff, qEq_ii, qNe_ii, Bool.not_true, Bool.not_false, decT, decF, dDelT, dDisp, dPairs, dFld, dFldS, dMeth, dMake, dIEnum, dAugK, dNever, dListRev, dListRg1, dPar, dListZip, dForD, mSetd, dRaise, dCallX, dMethX, dMakeX, dTryOnly, dTryAs, wipeE, qIsE, clsVal, clsVals, PySem.W.kitAny, eq_self, true_and]
    refine ⟨M.length, M.length + 1, M.length + 2, M.length + 3, s, t, P, F, L, rfl, hJ0 _ [], by omega, by omega, by omega, J, by omega, fun u hu => (hPu u hu).2, fun L' B r0 hs hb h0 ht hsome => ?_, fun hno L' => ?_⟩
    · rw [hset]
      try simp only [dSeq, dAsg, dgName, dgTup, dgCons, dgNil, dgSub, dRet, dRetN, dIfS, dDrop, dNext, dBreak, dCont, dAug, dVar, dC, dBin, dTest, dChain, dTru, dNotT, dAndT, dOrT, dAndV, dOrV, dNotV, dIf, dNil, dCons, dTup, dLst, dNewDict, dNeg, dCB, dBM, dBM0, dCall, dYes,   dSl, dNoPart, dPart, qSl, dBack, qBack, dFor, dISeq, dIRng1, dIRng2, dIZip, dLc, dDc,   qAdd, qInt, qInt0, qSub, qMul, qDiv, qMod, qPow, qLt, qLe, qGt, qGe, qIs, qIsNot, qIx, qLen, qAbs, qMax, qMin, qSum, qAll, qAny, qInt_, qStr_, qList_, qTuple_, qDict_, qIsi, qSet, iAdd, iSub, iMul, iDiv, iMod,   mAppend, mExtend, mPop, truD, tyN, isTy, seqD, lstD, keyD, isNonD,   kit_ii, kit_bi, kit_si, kit_ti, kit_li, kit_di, kit_ni, kit_ib, kit_bb, kit_sb, kit_tb, kit_lb, kit_nb, kit_is, kit_ss, kit_ts, kit_ls, kit_ns, kit_it, kit_st, kit_tt, kit_lt, kit_nt, kit_il, kit_tl, kit_ll, kit_dl, kit_nl, kit_dd, kit_nd, kit_ld,   startD, wipeD, List.map_cons, List.map_nil, List.length_cons, List.length_nil, Nat.reduceAdd, Nat.reduceSub, List.replicate_succ, List.replicate_zero, List.cons_append, List.nil_append, List.getElem?_cons_zero, List.getElem?_cons_succ, List.set_cons_zero, List.set_cons_succ,   List.length_append, List.length_set, set_get, Option.map_some, List.set_set, atI_0, atI_1, atI_2, atI_3, atI_4, atI_5, atI_6, List.append_assoc, Nat.add_assoc, getK, getK0, getL, setK, setK0, setL, List.length_map, mJoin, mIndex, mCount, mGet, strsOf, intsOf, blsOf, Option.bind_some, intsD_map, strsD_map, blsD_map, Option.isSome_some, szl, Nat.reduceLeDiff, qEq_ii, qNe_ii, Bool.not_true, Bool.not_false, decT, decF, dDelT, dDisp, dPairs, dFld, dFldS, dMeth, dMake, dIEnum, dAugK, dNever, dListRev, dListRg1, dPar, dListZip, dForD, mSetd, dRaise, dCallX, dMethX, dMakeX, dTryOnly, dTryAs, wipeE, qIsE, clsVal, clsVals, PySem.W.kitAny, eq_self, true_and, (hJ0 _ _).1, (hJ0 _ _).2.1, jntF_1]
      have hall := hb.all J h0 ht hsome
      have hval : ∀ x, x < P.length → ∃ u, Val P F L x u := fun x hx => by
        obtain ⟨d, r, k⟩ := J.root.2 x hx
        obtain ⟨u, _, hu⟩ := hall x hx r (.self k) k.top
        exact ⟨u, hu⟩
      refine forGo_ind (fun items r M' => ∃ (n : Nat) (fs : Fl) (L1 : List Nat) (u1 u2 u3 u4 : Option D), MF P F L n fs ∧ (∀ i u, getF fs i = some u → (u.size : Int) ≤ most) ∧ n ≤ P.length ∧ items = enumD n ((P.drop n).map Tm.d) ∧ SameTops L L1 ∧
        r = [some s.d, some t.d, some (D.int most), some (D.loc M.length), some (D.loc (M.length + 4)), some (D.loc (M.length + 5)), u1, u2, u3, u4] ∧
        M' = M ++ (MO.ins (He.ga K "Joint") (jntF (.loc (M.length + 1)) (.loc (M.length + 2)) (.loc (M.length + 3))) :: .lst (P.map Tm.d) :: .lst (natD F) :: .lst (natD L1) :: .dic (builtD B) :: .dic (flD fs) :: [])) ?_ ?_ _ _ _
        ⟨0, [], L', none, none, none, none, .start, (fun i u h => by cases h), Nat.zero_le _, rfl, hs, rfl, rfl⟩
      · rintro x rest r M' ⟨n, fs, L1, u1, u2, u3, u4, hf, hfz, hn, hi, hs1, rfl, rfl⟩ ih
        refine ⟨(hJ0 _ _).2.1, ?_⟩
        have hnl : n < P.length := by
          refine Classical.byContradiction fun h => ?_
          rw [List.drop_of_length_le (by omega)] at hi
          cases hi
        have hdrop := List.drop_eq_getElem_cons hnl
        have hPn : P[n]? = some P[n] := List.getElem?_eq_getElem hnl
        generalize P[n] = p at hdrop hPn
        rw [hdrop, List.map_cons] at hi
        injection hi with hx hr
        subst hx hr
        have hfl := hf.len
        have hfl2 := flD_len fs
        cases p with
        | app f ts =>
          rw [Tm.d_app]
          try simp only [dSeq, dAsg, dgName, dgTup, dgCons, dgNil, dgSub, dRet, dRetN, dIfS, dDrop, dNext, dBreak, dCont, dAug, dVar, dC, dBin, dTest, dChain, dTru, dNotT, dAndT, dOrT, dAndV, dOrV, dNotV, dIf, dNil, dCons, dTup, dLst, dNewDict, dNeg, dCB, dBM, dBM0, dCall, dYes,   dSl, dNoPart, dPart, qSl, dBack, qBack, dFor, dISeq, dIRng1, dIRng2, dIZip, dLc, dDc,   qAdd, qInt, qInt0, qSub, qMul, qDiv, qMod, qPow, qLt, qLe, qGt, qGe, qIs, qIsNot, qIx, qLen, qAbs, qMax, qMin, qSum, qAll, qAny, qInt_, qStr_, qList_, qTuple_, qDict_, qIsi, qSet, iAdd, iSub, iMul, iDiv, iMod,   mAppend, mExtend, mPop, truD, tyN, isTy, seqD, lstD, keyD, isNonD,   kit_ii, kit_bi, kit_si, kit_ti, kit_li, kit_di, kit_ni, kit_ib, kit_bb, kit_sb, kit_tb, kit_lb, kit_nb, kit_is, kit_ss, kit_ts, kit_ls, kit_ns, kit_it, kit_st, kit_tt, kit_lt, kit_nt, kit_il, kit_tl, kit_ll, kit_dl, kit_nl, kit_dd, kit_nd, kit_ld,   startD, wipeD, List.map_cons, List.map_nil, List.length_cons, List.length_nil, Nat.reduceAdd, Nat.reduceSub, List.replicate_succ, List.replicate_zero, List.cons_append, List.nil_append, List.getElem?_cons_zero, List.getElem?_cons_succ, List.set_cons_zero, List.set_cons_succ,   List.length_append, List.length_set, set_get, Option.map_some, List.set_set, atI_0, atI_1, atI_2, atI_3, atI_4, atI_5, atI_6, List.append_assoc, Nat.add_assoc, getK, getK0, getL, setK, setK0, setL, List.length_map, mJoin, mIndex, mCount, mGet, strsOf, intsOf, blsOf, Option.bind_some, intsD_map, strsD_map, blsD_map, Option.isSome_some, szl, Nat.reduceLeDiff, qEq_ii, qNe_ii, Bool.not_true, Bool.not_false, decT, decF, dDelT, dDisp, dPairs, dFld, dFldS, dMeth, dMake, dIEnum, dAugK, dNever, dListRev, dListRg1, dPar, dListZip, dForD, mSetd, dRaise, dCallX, dMethX, dMakeX, dTryOnly, dTryAs, wipeE, qIsE, clsVal, clsVals, PySem.W.kitAny, eq_self, true_and]
          exact ih _ _ ⟨n + 1, fs, L1, _, _, _, _, hf.app hPn, hfz, hnl, rfl, hs1, rfl, rfl⟩
        | var i =>
          rw [Tm.d_var]
          obtain ⟨d, rn, k⟩ := J.root.2 n hnl
          obtain ⟨u, hu, huv⟩ := hall n hnl rn (.self k) k.top
          obtain ⟨d', _, k'⟩ := hs1.2 _ _ _ k
          have gv : valD (builtD B) (Sum.inl (rn : Int)) = some (.tup [u.d, .int (u.size : Nat)]) := by rw [val_builtD, hu]; rfl
          have hun : u.Nm NameOk := huv.nm J hsn htn
          try simp only [dSeq, dAsg, dgName, dgTup, dgCons, dgNil, dgSub, dRet, dRetN, dIfS, dDrop, dNext, dBreak, dCont, dAug, dVar, dC, dBin, dTest, dChain, dTru, dNotT, dAndT, dOrT, dAndV, dOrV, dNotV, dIf, dNil, dCons, dTup, dLst, dNewDict, dNeg, dCB, dBM, dBM0, dCall, dYes,   dSl, dNoPart, dPart, qSl, dBack, qBack, dFor, dISeq, dIRng1, dIRng2, dIZip, dLc, dDc,   qAdd, qInt, qInt0, qSub, qMul, qDiv, qMod, qPow, qLt, qLe, qGt, qGe, qIs, qIsNot, qIx, qLen, qAbs, qMax, qMin, qSum, qAll, qAny, qInt_, qStr_, qList_, qTuple_, qDict_, qIsi, qSet, iAdd, iSub, iMul, iDiv, iMod,   mAppend, mExtend, mPop, truD, tyN, isTy, seqD, lstD, keyD, isNonD,   kit_ii, kit_bi, kit_si, kit_ti, kit_li, kit_di, kit_ni, kit_ib, kit_bb, kit_sb, kit_tb, kit_lb, kit_nb, kit_is, kit_ss, kit_ts, kit_ls, kit_ns, kit_it, kit_st, kit_tt, kit_lt, kit_nt, kit_il, kit_tl, kit_ll, kit_dl, kit_nl, kit_dd, kit_nd, kit_ld,   startD, wipeD, List.map_cons, List.map_nil, List.length_cons, List.length_nil, Nat.reduceAdd, Nat.reduceSub, List.replicate_succ, List.replicate_zero, List.cons_append, List.nil_append, List.getElem?_cons_zero, List.getElem?_cons_succ, List.set_cons_zero, List.set_cons_succ,   List.length_append, List.length_set, set_get, Option.map_some, List.set_set, atI_0, atI_1, atI_2, atI_3, atI_4, atI_5, atI_6, List.append_assoc, Nat.add_assoc, getK, getK0, getL, setK, setK0, setL, List.length_map, mJoin, mIndex, mCount, mGet, strsOf, intsOf, blsOf, Option.bind_some, intsD_map, strsD_map, blsD_map, Option.isSome_some, szl, Nat.reduceLeDiff, qEq_ii, qNe_ii, Bool.not_true, Bool.not_false, decT, decF, dDelT, dDisp, dPairs, dFld, dFldS, dMeth, dMake, dIEnum, dAugK, dNever, dListRev, dListRg1, dPar, dListZip, dForD, mSetd, dRaise, dCallX, dMethX, dMakeX, dTryOnly, dTryAs, wipeE, qIsE, clsVal, clsVals, PySem.W.kitAny, eq_self, true_and, (hJ0 _ _).1, hno2]
          refine ⟨M.length, M.length + 1, M.length + 2, M.length + 3, n, rn, d', P, F, L1, rfl, hJ0 _ _, by omega, by omega, by omega, by rw [hs1.1, J.root.1]; omega, k', fun L2 hL2 => ?_⟩
          rw [hset]
          have hs2 := hs1.trans hL2
          try simp only [dSeq, dAsg, dgName, dgTup, dgCons, dgNil, dgSub, dRet, dRetN, dIfS, dDrop, dNext, dBreak, dCont, dAug, dVar, dC, dBin, dTest, dChain, dTru, dNotT, dAndT, dOrT, dAndV, dOrV, dNotV, dIf, dNil, dCons, dTup, dLst, dNewDict, dNeg, dCB, dBM, dBM0, dCall, dYes,   dSl, dNoPart, dPart, qSl, dBack, qBack, dFor, dISeq, dIRng1, dIRng2, dIZip, dLc, dDc,   qAdd, qInt, qInt0, qSub, qMul, qDiv, qMod, qPow, qLt, qLe, qGt, qGe, qIs, qIsNot, qIx, qLen, qAbs, qMax, qMin, qSum, qAll, qAny, qInt_, qStr_, qList_, qTuple_, qDict_, qIsi, qSet, iAdd, iSub, iMul, iDiv, iMod,   mAppend, mExtend, mPop, truD, tyN, isTy, seqD, lstD, keyD, isNonD,   kit_ii, kit_bi, kit_si, kit_ti, kit_li, kit_di, kit_ni, kit_ib, kit_bb, kit_sb, kit_tb, kit_lb, kit_nb, kit_is, kit_ss, kit_ts, kit_ls, kit_ns, kit_it, kit_st, kit_tt, kit_lt, kit_nt, kit_il, kit_tl, kit_ll, kit_dl, kit_nl, kit_dd, kit_nd, kit_ld,   startD, wipeD, List.map_cons, List.map_nil, List.length_cons, List.length_nil, Nat.reduceAdd, Nat.reduceSub, List.replicate_succ, List.replicate_zero, List.cons_append, List.nil_append, List.getElem?_cons_zero, List.getElem?_cons_succ, List.set_cons_zero, List.set_cons_succ,   List.length_append, List.length_set, set_get, Option.map_some, List.set_set, atI_0, atI_1, atI_2, atI_3, atI_4, atI_5, atI_6, List.append_assoc, Nat.add_assoc, getK, getK0, getL, setK, setK0, setL, List.length_map, mJoin, mIndex, mCount, mGet, strsOf, intsOf, blsOf, Option.bind_some, intsD_map, strsD_map, blsD_map, Option.isSome_some, szl, Nat.reduceLeDiff, qEq_ii, qNe_ii, Bool.not_true, Bool.not_false, decT, decF, dDelT, dDisp, dPairs, dFld, dFldS, dMeth, dMake, dIEnum, dAugK, dNever, dListRev, dListRg1, dPar, dListZip, dForD, mSetd, dRaise, dCallX, dMethX, dMakeX, dTryOnly, dTryAs, wipeE, qIsE, clsVal, clsVals, PySem.W.kitAny, eq_self, true_and, gv]
          have hdi : D.int i = (Tm.var i).d := (Tm.d_var i).symm
          rw [hdi]
          refine qNe_pl (Tm.pl hun) (Tm.pl .var) (.inr (by rw [Tm.dep, Tm.deep_var]; omega)) fun b hb => ?_
          rw [← hdi]
          cases b with
          | false =>
            have hui : u = .var i := by
              refine Classical.byContradiction fun hne => ?_
              have := hb.mpr fun e => hne (Tm.d_inj e)
              cases this
            subst hui
            try simp only [dSeq, dAsg, dgName, dgTup, dgCons, dgNil, dgSub, dRet, dRetN, dIfS, dDrop, dNext, dBreak, dCont, dAug, dVar, dC, dBin, dTest, dChain, dTru, dNotT, dAndT, dOrT, dAndV, dOrV, dNotV, dIf, dNil, dCons, dTup, dLst, dNewDict, dNeg, dCB, dBM, dBM0, dCall, dYes,   dSl, dNoPart, dPart, qSl, dBack, qBack, dFor, dISeq, dIRng1, dIRng2, dIZip, dLc, dDc,   qAdd, qInt, qInt0, qSub, qMul, qDiv, qMod, qPow, qLt, qLe, qGt, qGe, qIs, qIsNot, qIx, qLen, qAbs, qMax, qMin, qSum, qAll, qAny, qInt_, qStr_, qList_, qTuple_, qDict_, qIsi, qSet, iAdd, iSub, iMul, iDiv, iMod,   mAppend, mExtend, mPop, truD, tyN, isTy, seqD, lstD, keyD, isNonD,   kit_ii, kit_bi, kit_si, kit_ti, kit_li, kit_di, kit_ni, kit_ib, kit_bb, kit_sb, kit_tb, kit_lb, kit_nb, kit_is, kit_ss, kit_ts, kit_ls, kit_ns, kit_it, kit_st, kit_tt, kit_lt, kit_nt, kit_il, kit_tl, kit_ll, kit_dl, kit_nl, kit_dd, kit_nd, kit_ld,   startD, wipeD, List.map_cons, List.map_nil, List.length_cons, List.length_nil, Nat.reduceAdd, Nat.reduceSub, List.replicate_succ, List.replicate_zero, List.cons_append, List.nil_append, List.getElem?_cons_zero, List.getElem?_cons_succ, List.set_cons_zero, List.set_cons_succ,   List.length_append, List.length_set, set_get, Option.map_some, List.set_set, atI_0, atI_1, atI_2, atI_3, atI_4, atI_5, atI_6, List.append_assoc, Nat.add_assoc, getK, getK0, getL, setK, setK0, setL, List.length_map, mJoin, mIndex, mCount, mGet, strsOf, intsOf, blsOf, Option.bind_some, intsD_map, strsD_map, blsD_map, Option.isSome_some, szl, Nat.reduceLeDiff, qEq_ii, qNe_ii, Bool.not_true, Bool.not_false, decT, decF, dDelT, dDisp, dPairs, dFld, dFldS, dMeth, dMake, dIEnum, dAugK, dNever, dListRev, dListRg1, dPar, dListZip, dForD, mSetd, dRaise, dCallX, dMethX, dMakeX, dTryOnly, dTryAs, wipeE, qIsE, clsVal, clsVals, PySem.W.kitAny, eq_self, true_and]
            exact ih _ _ ⟨n + 1, fs, L2, _, _, _, _, hf.skip hPn huv, hfz, hnl, rfl, hs2, rfl, rfl⟩
          | true =>
            have hui : u ≠ .var i := fun e => hb.mp rfl (by rw [e])
            by_cases hm : most < (u.size : Int)
            · try simp only [dSeq, dAsg, dgName, dgTup, dgCons, dgNil, dgSub, dRet, dRetN, dIfS, dDrop, dNext, dBreak, dCont, dAug, dVar, dC, dBin, dTest, dChain, dTru, dNotT, dAndT, dOrT, dAndV, dOrV, dNotV, dIf, dNil, dCons, dTup, dLst, dNewDict, dNeg, dCB, dBM, dBM0, dCall, dYes,   dSl, dNoPart, dPart, qSl, dBack, qBack, dFor, dISeq, dIRng1, dIRng2, dIZip, dLc, dDc,   qAdd, qInt, qInt0, qSub, qMul, qDiv, qMod, qPow, qLt, qLe, qGt, qGe, qIs, qIsNot, qIx, qLen, qAbs, qMax, qMin, qSum, qAll, qAny, qInt_, qStr_, qList_, qTuple_, qDict_, qIsi, qSet, iAdd, iSub, iMul, iDiv, iMod,   mAppend, mExtend, mPop, truD, tyN, isTy, seqD, lstD, keyD, isNonD,   kit_ii, kit_bi, kit_si, kit_ti, kit_li, kit_di, kit_ni, kit_ib, kit_bb, kit_sb, kit_tb, kit_lb, kit_nb, kit_is, kit_ss, kit_ts, kit_ls, kit_ns, kit_it, kit_st, kit_tt, kit_lt, kit_nt, kit_il, kit_tl, kit_ll, kit_dl, kit_nl, kit_dd, kit_nd, kit_ld,   startD, wipeD, List.map_cons, List.map_nil, List.length_cons, List.length_nil, Nat.reduceAdd, Nat.reduceSub, List.replicate_succ, List.replicate_zero, List.cons_append, List.nil_append, List.getElem?_cons_zero, List.getElem?_cons_succ, List.set_cons_zero, List.set_cons_succ,   List.length_append, List.length_set, set_get, Option.map_some, List.set_set, atI_0, atI_1, atI_2, atI_3, atI_4, atI_5, atI_6, List.append_assoc, Nat.add_assoc, getK, getK0, getL, setK, setK0, setL, List.length_map, mJoin, mIndex, mCount, mGet, strsOf, intsOf, blsOf, Option.bind_some, intsD_map, strsD_map, blsD_map, Option.isSome_some, szl, Nat.reduceLeDiff, qEq_ii, qNe_ii, Bool.not_true, Bool.not_false, decT, decF, dDelT, dDisp, dPairs, dFld, dFldS, dMeth, dMake, dIEnum, dAugK, dNever, dListRev, dListRg1, dPar, dListZip, dForD, mSetd, dRaise, dCallX, dMethX, dMakeX, dTryOnly, dTryAs, wipeE, qIsE, clsVal, clsVals, PySem.W.kitAny, eq_self, true_and, decide_eq_true hm]
              exact .inl (qe i u (MF.exm J hval) hm (fun θ hθ => huv.open_ J hθ hPn) _)
            · try simp only [dSeq, dAsg, dgName, dgTup, dgCons, dgNil, dgSub, dRet, dRetN, dIfS, dDrop, dNext, dBreak, dCont, dAug, dVar, dC, dBin, dTest, dChain, dTru, dNotT, dAndT, dOrT, dAndV, dOrV, dNotV, dIf, dNil, dCons, dTup, dLst, dNewDict, dNeg, dCB, dBM, dBM0, dCall, dYes,   dSl, dNoPart, dPart, qSl, dBack, qBack, dFor, dISeq, dIRng1, dIRng2, dIZip, dLc, dDc,   qAdd, qInt, qInt0, qSub, qMul, qDiv, qMod, qPow, qLt, qLe, qGt, qGe, qIs, qIsNot, qIx, qLen, qAbs, qMax, qMin, qSum, qAll, qAny, qInt_, qStr_, qList_, qTuple_, qDict_, qIsi, qSet, iAdd, iSub, iMul, iDiv, iMod,   mAppend, mExtend, mPop, truD, tyN, isTy, seqD, lstD, keyD, isNonD,   kit_ii, kit_bi, kit_si, kit_ti, kit_li, kit_di, kit_ni, kit_ib, kit_bb, kit_sb, kit_tb, kit_lb, kit_nb, kit_is, kit_ss, kit_ts, kit_ls, kit_ns, kit_it, kit_st, kit_tt, kit_lt, kit_nt, kit_il, kit_tl, kit_ll, kit_dl, kit_nl, kit_dd, kit_nd, kit_ld,   startD, wipeD, List.map_cons, List.map_nil, List.length_cons, List.length_nil, Nat.reduceAdd, Nat.reduceSub, List.replicate_succ, List.replicate_zero, List.cons_append, List.nil_append, List.getElem?_cons_zero, List.getElem?_cons_succ, List.set_cons_zero, List.set_cons_succ,   List.length_append, List.length_set, set_get, Option.map_some, List.set_set, atI_0, atI_1, atI_2, atI_3, atI_4, atI_5, atI_6, List.append_assoc, Nat.add_assoc, getK, getK0, getL, setK, setK0, setL, List.length_map, mJoin, mIndex, mCount, mGet, strsOf, intsOf, blsOf, Option.bind_some, intsD_map, strsD_map, blsD_map, Option.isSome_some, szl, Nat.reduceLeDiff, qEq_ii, qNe_ii, Bool.not_true, Bool.not_false, decT, decF, dDelT, dDisp, dPairs, dFld, dFldS, dMeth, dMake, dIEnum, dAugK, dNever, dListRev, dListRg1, dPar, dListZip, dForD, mSetd, dRaise, dCallX, dMethX, dMakeX, dTryOnly, dTryAs, wipeE, qIsE, clsVal, clsVals, PySem.W.kitAny, eq_self, true_and, decide_eq_false hm, put_flD]
              refine ⟨by omega, ih _ _ ⟨n + 1, putF fs i u, L2, _, _, _, _, hf.put J hPn huv hui, fun j v e => ?_, hnl, rfl, hs2, rfl, rfl⟩⟩
              rw [getF_putF] at e
              split at e
              · cases e; omega
              · exact hfz j v e
      · rintro r M' ⟨n, fs, L1, u1, u2, u3, u4, hf, hfz, hn, hi, hs1, rfl, rfl⟩
        refine ⟨(hJ0 _ _).2.1, ?_⟩
        dsimp only
        try simp only [dSeq, dAsg, dgName, dgTup, dgCons, dgNil, dgSub, dRet, dRetN, dIfS, dDrop, dNext, dBreak, dCont, dAug, dVar, dC, dBin, dTest, dChain, dTru, dNotT, dAndT, dOrT, dAndV, dOrV, dNotV, dIf, dNil, dCons, dTup, dLst, dNewDict, dNeg, dCB, dBM, dBM0, dCall, dYes,   dSl, dNoPart, dPart, qSl, dBack, qBack, dFor, dISeq, dIRng1, dIRng2, dIZip, dLc, dDc,   qAdd, qInt, qInt0, qSub, qMul, qDiv, qMod, qPow, qLt, qLe, qGt, qGe, qIs, qIsNot, qIx, qLen, qAbs, qMax, qMin, qSum, qAll, qAny, qInt_, qStr_, qList_, qTuple_, qDict_, qIsi, qSet, iAdd, iSub, iMul, iDiv, iMod,   mAppend, mExtend, mPop, truD, tyN, isTy, seqD, lstD, keyD, isNonD,   kit_ii, kit_bi, kit_si, kit_ti, kit_li, kit_di, kit_ni, kit_ib, kit_bb, kit_sb, kit_tb, kit_lb, kit_nb, kit_is, kit_ss, kit_ts, kit_ls, kit_ns, kit_it, kit_st, kit_tt, kit_lt, kit_nt, kit_il, kit_tl, kit_ll, kit_dl, kit_nl, kit_dd, kit_nd, kit_ld,   startD, wipeD, List.map_cons, List.map_nil, List.length_cons, List.length_nil, Nat.reduceAdd, Nat.reduceSub, List.replicate_succ, List.replicate_zero, List.cons_append, List.nil_append, List.getElem?_cons_zero, List.getElem?_cons_succ, List.set_cons_zero, List.set_cons_succ,   List.length_append, List.length_set, set_get, Option.map_some, List.set_set, atI_0, atI_1, atI_2, atI_3, atI_4, atI_5, atI_6, List.append_assoc, Nat.add_assoc, getK, getK0, getL, setK, setK0, setL, List.length_map, mJoin, mIndex, mCount, mGet, strsOf, intsOf, blsOf, Option.bind_some, intsD_map, strsD_map, blsD_map, Option.isSome_some, szl, Nat.reduceLeDiff, qEq_ii, qNe_ii, Bool.not_true, Bool.not_false, decT, decF, dDelT, dDisp, dPairs, dFld, dFldS, dMeth, dMake, dIEnum, dAugK, dNever, dListRev, dListRg1, dPar, dListZip, dForD, mSetd, dRaise, dCallX, dMethX, dMakeX, dTryOnly, dTryAs, wipeE, qIsE, clsVal, clsVals, PySem.W.kitAny, eq_self, true_and]
        have hnP : n = P.length := by
          refine Classical.byContradiction fun h => ?_
          rw [List.drop_eq_getElem_cons (by omega)] at hi
          cases hi
        subst hnP
        exact Done.dict hM (takeK rfl) (by omega) (getK rfl) (okDs_flD _ _) (q fs (hf.mgu J hval) hfz)
    · rw [hset]
      try simp only [dSeq, dAsg, dgName, dgTup, dgCons, dgNil, dgSub, dRet, dRetN, dIfS, dDrop, dNext, dBreak, dCont, dAug, dVar, dC, dBin, dTest, dChain, dTru, dNotT, dAndT, dOrT, dAndV, dOrV, dNotV, dIf, dNil, dCons, dTup, dLst, dNewDict, dNeg, dCB, dBM, dBM0, dCall, dYes,   dSl, dNoPart, dPart, qSl, dBack, qBack, dFor, dISeq, dIRng1, dIRng2, dIZip, dLc, dDc,   qAdd, qInt, qInt0, qSub, qMul, qDiv, qMod, qPow, qLt, qLe, qGt, qGe, qIs, qIsNot, qIx, qLen, qAbs, qMax, qMin, qSum, qAll, qAny, qInt_, qStr_, qList_, qTuple_, qDict_, qIsi, qSet, iAdd, iSub, iMul, iDiv, iMod,   mAppend, mExtend, mPop, truD, tyN, isTy, seqD, lstD, keyD, isNonD,   kit_ii, kit_bi, kit_si, kit_ti, kit_li, kit_di, kit_ni, kit_ib, kit_bb, kit_sb, kit_tb, kit_lb, kit_nb, kit_is, kit_ss, kit_ts, kit_ls, kit_ns, kit_it, kit_st, kit_tt, kit_lt, kit_nt, kit_il, kit_tl, kit_ll, kit_dl, kit_nl, kit_dd, kit_nd, kit_ld,   startD, wipeD, List.map_cons, List.map_nil, List.length_cons, List.length_nil, Nat.reduceAdd, Nat.reduceSub, List.replicate_succ, List.replicate_zero, List.cons_append, List.nil_append, List.getElem?_cons_zero, List.getElem?_cons_succ, List.set_cons_zero, List.set_cons_succ,   List.length_append, List.length_set, set_get, Option.map_some, List.set_set, atI_0, atI_1, atI_2, atI_3, atI_4, atI_5, atI_6, List.append_assoc, Nat.add_assoc, getK, getK0, getL, setK, setK0, setL, List.length_map, mJoin, mIndex, mCount, mGet, strsOf, intsOf, blsOf, Option.bind_some, intsD_map, strsD_map, blsD_map, Option.isSome_some, szl, Nat.reduceLeDiff, qEq_ii, qNe_ii, Bool.not_true, Bool.not_false, decT, decF, dDelT, dDisp, dPairs, dFld, dFldS, dMeth, dMake, dIEnum, dAugK, dNever, dListRev, dListRg1, dPar, dListZip, dForD, mSetd, dRaise, dCallX, dMethX, dMakeX, dTryOnly, dTryAs, wipeE, qIsE, clsVal, clsVals, PySem.W.kitAny, eq_self, true_and]
      exact Done.old hM (takeK rfl) rfl (qn hno)
  · rw [hset]
    try simp only [dSeq, dAsg, dgName, dgTup, dgCons, dgNil, dgSub, dRet, dRetN, dIfS, dDrop, dNext, dBreak, dCont, dAug, dVar, dC, dBin, dTest, dChain, dTru, dNotT, dAndT, dOrT, dAndV, dOrV, dNotV, dIf, dNil, dCons, dTup, dLst, dNewDict, dNeg, dCB, dBM, dBM0, dCall, dYes,   dSl, dNoPart, dPart, qSl, dBack, qBack, dFor, dISeq, dIRng1, dIRng2, dIZip, dLc, dDc,   qAdd, qInt, qInt0, qSub, qMul, qDiv, qMod, qPow, qLt, qLe, qGt, qGe, qIs, qIsNot, qIx, qLen, qAbs, qMax, qMin, qSum, qAll, qAny, qInt_, qStr_, qList_, qTuple_, qDict_, qIsi, qSet, iAdd, iSub, iMul, iDiv, iMod,   mAppend, mExtend, mPop, truD, tyN, isTy, seqD, lstD, keyD, isNonD,   kit_ii, kit_bi, kit_si, kit_ti, kit_li, kit_di, kit_ni, kit_ib, kit_bb, kit_sb, kit_tb, kit_lb, kit_nb, kit_is, kit_ss, kit_ts, kit_ls, kit_ns, kit_it, kit_st, kit_tt, kit_lt, kit_nt, kit_il, kit_tl, kit_ll, kit_dl, kit_nl, kit_dd, kit_nd, kit_ld,   startD, wipeD, List.map_cons, List.map_nil, List.length_cons, List.length_nil, Nat.reduceAdd, Nat.reduceSub, List.replicate_succ, List.replicate_zero, List.cons_append, List.nil_append, List.getElem?_cons_zero, List.getElem?_cons_succ, List.set_cons_zero, List.set_cons_succ,   List.length_append, List.length_set, set_get, Option.map_some, List.set_set, atI_0, atI_1, atI_2, atI_3, atI_4, atI_5, atI_6, List.append_assoc, Nat.add_assoc, getK, getK0, getL, setK, setK0, setL, List.length_map, mJoin, mIndex, mCount, mGet, strsOf, intsOf, blsOf, Option.bind_some, intsD_map, strsD_map, blsD_map, Option.isSome_some, szl, Nat.reduceLeDiff, qEq_ii, qNe_ii, Bool.not_true, Bool.not_false, decT, decF, dDelT, dDisp, dPairs, dFld, dFldS, dMeth, dMake, dIEnum, dAugK, dNever, dListRev, dListRg1, dPar, dListZip, dForD, mSetd, dRaise, dCallX, dMethX, dMakeX, dTryOnly, dTryAs, wipeE, qIsE, clsVal, clsVals, PySem.W.kitAny, eq_self, true_and]
    exact Done.old hM (takeK rfl) rfl (qn hno)
end
/-! the dice -/
def DiceO (o : MO) : Prop := ∃ (sc : List Int) (a k b : Int), o = .lst [.int a, .rol (sc.map D.int), .int k, .int b]
def Dice (M : Mem) (l : Nat) : Prop := ∃ o, M[l]? = some o ∧ DiceO o
def sp_cell : DSp := fun ds M Q _ => ∃ (sc : List Int) (k : Int), ds = [.rol (sc.map D.int), .int k] ∧ 0 ≤ k ∧ ∀ v : Int, Q (.int v) M
def sp_dice : DSp := fun ds M Q _ => ∃ (sc : List Int) (k : Int), ds = [.rol (sc.map D.int), .int k] ∧ 0 ≤ k ∧ ∀ o, DiceO o → Q (.loc M.length) (M ++ [o])
def sp_off : DSp := fun ds M Q _ => ∃ (l : Nat) (most : Int), ds = [.loc l, .int most] ∧ Dice M l ∧ 0 < most ∧ most < 1073741824 ∧ ∀ r o, 0 ≤ r → r < most → DiceO o → Q (.int r) (M.set l o)
theorem DiceO.ok {o : MO} (h : DiceO o) (n : Nat) : okO n o = true := by
  obtain ⟨sc, a, k, b, rfl⟩ := h
  have : okDs n (sc.map D.int) = true := by
    rw [okDs_iff]
    intro d hd
    obtain ⟨i, _, rfl⟩ := List.mem_map.mp hd
    rfl
  simp [okO, okDs, okD, this]
section
variable {P : Program} {w : World} {K : PySem.W.Frag} {mg : Str → Option Value} {base : Heap}
theorem fn_cell (T : Top K mg) : DFn P w K mg base CX0 1 "_law_cell" ["_law_script", "_law_k"] sp_cell := by
  obtain ⟨fd, F⟩ := T.d__law_cell
  have sc := sc__law_cell
  refine DFn.ofD (k := 0) F T.g__law_cell (FunD.bindsN F fun _ _ _ _ _ _ us hl => match us, hl with | [_, _], _ => rfl) sc ?len ⟨_, fun cdv A outer s H E m0 hr => (
      (dss_cons (ds_if (dt_cmp dop_lt (de_var 1) (de_cb T.n_len dc_len b_len (da_cons (de_var 0) da_nil))) (dss_one (ds_ret (de_ix hr (de_var 0) (de_var 1)))) dss_nil)
      (dss_one (ds_ret de_int)))), ?_⟩
  case len =>
    rintro ds M Q E ⟨sc, k, rfl, _⟩
    rfl
  rintro ds M Qd Ed ⟨sc, k, rfl, hk, q⟩ hM
  try simp only [dSeq, dAsg, dgName, dgTup, dgCons, dgNil, dgSub, dRet, dRetN, dIfS, dDrop, dNext, dBreak, dCont, dAug, dVar, dC, dBin, dTest, dChain, dTru, dNotT, dAndT, dOrT, dAndV, dOrV, dNotV, dIf, dNil, dCons, dTup, dLst, dNewDict, dNeg, dCB, dBM, dBM0, dCall, dYes,   dSl, dNoPart, dPart, qSl, dBack, qBack, dFor, dISeq, dIRng1, dIRng2, dIZip, dLc, dDc,   qAdd, qInt, qInt0, qSub, qMul, qDiv, qMod, qPow, qLt, qLe, qGt, qGe, qIs, qIsNot, qIx, qLen, qAbs, qMax, qMin, qSum, qAll, qAny, qInt_, qStr_, qList_, qTuple_, qDict_, qIsi, qSet, iAdd, iSub, iMul, iDiv, iMod,   mAppend, mExtend, mPop, truD, tyN, isTy, seqD, lstD, keyD, isNonD,   kit_ii, kit_bi, kit_si, kit_ti, kit_li, kit_di, kit_ni, kit_ib, kit_bb, kit_sb, kit_tb, kit_lb, kit_nb, kit_is, kit_ss, kit_ts, kit_ls, kit_ns, kit_it, kit_st, kit_tt, kit_lt, kit_nt, kit_il, kit_tl, kit_ll, kit_dl, kit_nl, kit_dd, kit_nd, kit_ld,   startD, wipeD, List.map_cons, List.map_nil, List.length_cons, List.length_nil, Nat.reduceAdd, Nat.reduceSub, List.replicate_succ, List.replicate_zero, List.cons_append, List.nil_append, List.getElem?_cons_zero, List.getElem?_cons_succ, List.set_cons_zero, List.set_cons_succ,   List.length_append, List.length_set, set_get, Option.map_some, List.set_set, atI_0, atI_1, atI_2, atI_3, atI_4, atI_5, atI_6, List.append_assoc, Nat.add_assoc, getK, getK0, getL, setK, setK0, setL, List.length_map, mJoin, mIndex, mCount, mGet, strsOf, intsOf, blsOf, Option.bind_some, intsD_map, strsD_map, blsD_map, Option.isSome_some, szl, Nat.reduceLeDiff, qEq_ii, qNe_ii, Bool.not_true, Bool.not_false, decT, decF, dDelT, dDisp, dPairs, dFld, dFldS, dMeth, dMake, dIEnum, dAugK, dNever, dListRev, dListRg1, dPar, dListZip, dForD, mSetd, dRaise, dCallX, dMethX, dMakeX, dTryOnly, dTryAs, wipeE, qIsE, clsVal, clsVals, PySem.W.kitAny, eq_self, true_and]
  by_cases h : k < (sc.length : Int)
  · rw [decide_eq_true h]
    obtain ⟨v, e⟩ := atI_ints (ns := sc) hk h
    rw [e]
    exact .same (q v)
  · rw [decide_eq_false h]
    exact .same (q 0)
theorem fn_dice (T : Top K mg) : DFn P w K mg base CX0 2 "_law_dice" ["_law_script", "_law_k"] sp_dice := by
  have F__law_cell := fn_cell (P := P) (w := w) (base := base) T
  obtain ⟨fd, F⟩ := T.d__law_dice
  have sc := sc__law_dice
  refine DFn.ofD (k := 1) F T.g__law_dice (FunD.bindsN F fun _ _ _ _ _ _ us hl => match us, hl with | [_, _], _ => rfl) sc ?len ⟨_, fun cdv A outer s H E m0 hr => (
      (dss_cons (ds_set 2 sc.nd (de_cb T.n_abs dc_abs b_abs (da_cons (de_call F__law_cell (hr.mono (by omega)) pass0 (da_cons (de_var 0) (da_cons (de_var 1) da_nil))) da_nil)))
      (dss_one (ds_ret (de_lst (da_cons (de_bin dop_mod (de_var 2) de_int) (da_cons (de_var 0) (da_cons (de_bin dop_add (de_var 1) de_int) (da_cons (de_bin dop_mul (de_ct T.n_int dc_int b_int (da_cons (de_cmp dop_ge (de_var 2) (de_bin dop_pow de_int de_int)) da_nil)) (de_var 2)) da_nil))))))))), ?_⟩
  case len =>
    rintro ds M Q E ⟨sc, k, rfl, _⟩
    rfl
  rintro ds M Qd Ed ⟨sc, k, rfl, hk, q⟩ hM
  try simp only [dSeq, dAsg, dgName, dgTup, dgCons, dgNil, dgSub, dRet, dRetN, dIfS, dDrop, dNext, dBreak, dCont, dAug, dVar, dC, dBin, dTest, dChain, dTru, dNotT, dAndT, dOrT, dAndV, dOrV, dNotV, dIf, dNil, dCons, dTup, dLst, dNewDict, dNeg, dCB, dBM, dBM0, dCall, dYes,   dSl, dNoPart, dPart, qSl, dBack, qBack, dFor, dISeq, dIRng1, dIRng2, dIZip, dLc, dDc,   qAdd, qInt, qInt0, qSub, qMul, qDiv, qMod, qPow, qLt, qLe, qGt, qGe, qIs, qIsNot, qIx, qLen, qAbs, qMax, qMin, qSum, qAll, qAny, qInt_, qStr_, qList_, qTuple_, qDict_, qIsi, qSet, iAdd, iSub, iMul, iDiv, iMod,   mAppend, mExtend, mPop, truD, tyN, isTy, seqD, lstD, keyD, isNonD,   kit_ii, kit_bi, kit_si, kit_ti, kit_li, kit_di, kit_ni, kit_ib, kit_bb, kit_sb, kit_tb, kit_lb, kit_nb, kit_is, kit_ss, kit_ts, kit_ls, kit_ns, kit_it, kit_st, kit_tt, kit_lt, kit_nt, kit_il, kit_tl, kit_ll, kit_dl, kit_nl, kit_dd, kit_nd, kit_ld,   startD, wipeD, List.map_cons, List.map_nil, List.length_cons, List.length_nil, Nat.reduceAdd, Nat.reduceSub, List.replicate_succ, List.replicate_zero, List.cons_append, List.nil_append, List.getElem?_cons_zero, List.getElem?_cons_succ, List.set_cons_zero, List.set_cons_succ,   List.length_append, List.length_set, set_get, Option.map_some, List.set_set, atI_0, atI_1, atI_2, atI_3, atI_4, atI_5, atI_6, List.append_assoc, Nat.add_assoc, getK, getK0, getL, setK, setK0, setL, List.length_map, mJoin, mIndex, mCount, mGet, strsOf, intsOf, blsOf, Option.bind_some, intsD_map, strsD_map, blsD_map, Option.isSome_some, szl, Nat.reduceLeDiff, qEq_ii, qNe_ii, Bool.not_true, Bool.not_false, decT, decF, dDelT, dDisp, dPairs, dFld, dFldS, dMeth, dMake, dIEnum, dAugK, dNever, dListRev, dListRg1, dPar, dListZip, dForD, mSetd, dRaise, dCallX, dMethX, dMakeX, dTryOnly, dTryAs, wipeE, qIsE, clsVal, clsVals, PySem.W.kitAny, eq_self, true_and]
  refine ⟨sc, k, rfl, hk, fun v => ?_⟩
  try simp only [dSeq, dAsg, dgName, dgTup, dgCons, dgNil, dgSub, dRet, dRetN, dIfS, dDrop, dNext, dBreak, dCont, dAug, dVar, dC, dBin, dTest, dChain, dTru, dNotT, dAndT, dOrT, dAndV, dOrV, dNotV, dIf, dNil, dCons, dTup, dLst, dNewDict, dNeg, dCB, dBM, dBM0, dCall, dYes,   dSl, dNoPart, dPart, qSl, dBack, qBack, dFor, dISeq, dIRng1, dIRng2, dIZip, dLc, dDc,   qAdd, qInt, qInt0, qSub, qMul, qDiv, qMod, qPow, qLt, qLe, qGt, qGe, qIs, qIsNot, qIx, qLen, qAbs, qMax, qMin, qSum, qAll, qAny, qInt_, qStr_, qList_, qTuple_, qDict_, qIsi, qSet, iAdd, iSub, iMul, iDiv, iMod,   mAppend, mExtend, mPop, truD, tyN, isTy, seqD, lstD, keyD, isNonD,   kit_ii, kit_bi, kit_si, kit_ti, kit_li, kit_di, kit_ni, kit_ib, kit_bb, kit_sb, kit_tb, kit_lb, kit_nb, kit_is, kit_ss, kit_ts, kit_ls, kit_ns, kit_it, kit_st, kit_tt, kit_lt, kit_nt, kit_il, kit_tl, kit_ll, kit_dl, kit_nl, kit_dd, kit_nd, kit_ld,   startD, wipeD, List.map_cons, List.map_nil, List.length_cons, List.length_nil, Nat.reduceAdd, Nat.reduceSub, List.replicate_succ, List.replicate_zero, List.cons_append, List.nil_append, List.getElem?_cons_zero, List.getElem?_cons_succ, List.set_cons_zero, List.set_cons_succ,   List.length_append, List.length_set, set_get, Option.map_some, List.set_set, atI_0, atI_1, atI_2, atI_3, atI_4, atI_5, atI_6, List.append_assoc, Nat.add_assoc, getK, getK0, getL, setK, setK0, setL, List.length_map, mJoin, mIndex, mCount, mGet, strsOf, intsOf, blsOf, Option.bind_some, intsD_map, strsD_map, blsD_map, Option.isSome_some, szl, Nat.reduceLeDiff, qEq_ii, qNe_ii, Bool.not_true, Bool.not_false, decT, decF, dDelT, dDisp, dPairs, dFld, dFldS, dMeth, dMake, dIEnum, dAugK, dNever, dListRev, dListRg1, dPar, dListZip, dForD, mSetd, dRaise, dCallX, dMethX, dMakeX, dTryOnly, dTryAs, wipeE, qIsE, clsVal, clsVals, PySem.W.kitAny, eq_self, true_and]
  refine ⟨by omega, ⟨by omega, by omega, by decide⟩, ?_⟩
  generalize (if v < 0 then -v else v) = c
  have h1 : CMul (if decide (10 ^ (18 : Int).toNat ≤ c) = true then 1 else 0) c := by
    unfold CMul
    left
    split <;> omega
  refine ⟨h1, .same (q _ ⟨sc, _, _, _, rfl⟩)⟩
theorem fn_off (T : Top K mg) : DFn P w K mg base CX0 2 "_law_off" ["_law_d", "_law_most"] sp_off := by
  have F__law_cell := fn_cell (P := P) (w := w) (base := base) T
  obtain ⟨fd, F⟩ := T.d__law_off
  have sc := sc__law_off
  refine DFn.ofD (k := 1) F T.g__law_off (FunD.bindsN F fun _ _ _ _ _ _ us hl => match us, hl with | [_, _], _ => rfl) sc ?len ⟨_, fun cdv A outer s H E m0 hr => (
      (dss_cons (ds_if (dt_cmp dop_gt (de_ix hr (de_var 0) de_int) de_int) (dss_cons (ds_set 2 sc.nd (de_bin dop_mod (de_ix hr (de_var 0) de_int) (de_var 1)))
      (dss_cons (ds_asg (de_bin dop_fdiv (de_ix hr (de_var 0) de_int) (de_var 1)) (dg_sub hr (de_var 0) de_int))
      (dss_one (ds_ret (de_var 2))))) dss_nil)
      (dss_cons (ds_set 3 sc.nd (de_cb T.n_abs dc_abs b_abs (da_cons (de_call F__law_cell (hr.mono (by omega)) pass0 (da_cons (de_ix hr (de_var 0) de_int) (da_cons (de_bin dop_mod (de_ix hr (de_var 0) de_int) (de_cb T.n_max (dc_max rfl) b_max (da_cons de_int (da_cons (de_cb T.n_len dc_len b_len (da_cons (de_ix hr (de_var 0) de_int) da_nil)) da_nil)))) da_nil))) da_nil)))
      (dss_cons (ds_asg (de_bin dop_add (de_ix hr (de_var 0) de_int) de_int) (dg_sub hr (de_var 0) de_int))
      (dss_cons (ds_asg (de_bin dop_mod (de_bin dop_add (de_bin dop_add (de_bin dop_mul (de_ix hr (de_var 0) de_int) de_int) de_int) (de_var 3)) de_int) (dg_sub hr (de_var 0) de_int))
      (dss_one (ds_ret (de_bin dop_mod (de_bin dop_fdiv (de_ix hr (de_var 0) de_int) de_int) (de_var 1))))))))), ?_⟩
  case len =>
    rintro ds M Q E ⟨l, most, rfl, _⟩
    rfl
  rintro ds M Qd Ed ⟨l, most, rfl, ⟨o, hl, sc, a, k, b, rfl⟩, h0, h1, q⟩ hM
  have e0 : atI [D.int a, D.rol (sc.map D.int), D.int k, D.int b] 0 = some (.int a) := rfl
  have e1 : atI [D.int a, D.rol (sc.map D.int), D.int k, D.int b] 1 = some (.rol (sc.map D.int)) := rfl
  have e2 : atI [D.int a, D.rol (sc.map D.int), D.int k, D.int b] 2 = some (.int k) := rfl
  have e3 : atI [D.int a, D.rol (sc.map D.int), D.int k, D.int b] 3 = some (.int b) := rfl
  try simp only [dSeq, dAsg, dgName, dgTup, dgCons, dgNil, dgSub, dRet, dRetN, dIfS, dDrop, dNext, dBreak, dCont, dAug, dVar, dC, dBin, dTest, dChain, dTru, dNotT, dAndT, dOrT, dAndV, dOrV, dNotV, dIf, dNil, dCons, dTup, dLst, dNewDict, dNeg, dCB, dBM, dBM0, dCall, dYes,   dSl, dNoPart, dPart, qSl, dBack, qBack, dFor, dISeq, dIRng1, dIRng2, dIZip, dLc, dDc,   qAdd, qInt, qInt0, qSub, qMul, qDiv, qMod, qPow, qLt, qLe, qGt, qGe, qIs, qIsNot, qIx, qLen, qAbs, qMax, qMin, qSum, qAll, qAny, qInt_, qStr_, qList_, qTuple_, qDict_, qIsi, qSet, iAdd, iSub, iMul, iDiv, iMod,   mAppend, mExtend, mPop, truD, tyN, isTy, seqD, lstD, keyD, isNonD,   kit_ii, kit_bi, kit_si, kit_ti, kit_li, kit_di, kit_ni, kit_ib, kit_bb, kit_sb, kit_tb, kit_lb, kit_nb, kit_is, kit_ss, kit_ts, kit_ls, kit_ns, kit_it, kit_st, kit_tt, kit_lt, kit_nt, kit_il, kit_tl, kit_ll, kit_dl, kit_nl, kit_dd, kit_nd, kit_ld,   startD, wipeD, List.map_cons, List.map_nil, List.length_cons, List.length_nil, Nat.reduceAdd, Nat.reduceSub, List.replicate_succ, List.replicate_zero, List.cons_append, List.nil_append, List.getElem?_cons_zero, List.getElem?_cons_succ, List.set_cons_zero, List.set_cons_succ,   List.length_append, List.length_set, set_get, Option.map_some, List.set_set, atI_0, atI_1, atI_2, atI_3, atI_4, atI_5, atI_6, List.append_assoc, Nat.add_assoc, getK, getK0, getL, setK, setK0, setL, List.length_map, mJoin, mIndex, mCount, mGet, strsOf, intsOf, blsOf, Option.bind_some, intsD_map, strsD_map, blsD_map, Option.isSome_some, szl, Nat.reduceLeDiff, qEq_ii, qNe_ii, Bool.not_true, Bool.not_false, decT, decF, dDelT, dDisp, dPairs, dFld, dFldS, dMeth, dMake, dIEnum, dAugK, dNever, dListRev, dListRg1, dPar, dListZip, dForD, mSetd, dRaise, dCallX, dMethX, dMakeX, dTryOnly, dTryAs, wipeE, qIsE, clsVal, clsVals, PySem.W.kitAny, eq_self, true_and, hl, e0, e1, e2, e3]
  by_cases hb : 0 < b
  · rw [decide_eq_true hb]
    refine ⟨h0, ⟨h0, h1⟩, .same ?_⟩
    exact q _ _ (Int.emod_nonneg _ (by omega)) (Int.emod_lt_of_pos _ h0) ⟨sc, a, k, b / most, rfl⟩
  · rw [decide_eq_false hb]
    have hm : (0 : Int) < (if (sc.length : Int) > 1 then (sc.length : Int) else 1) := by split <;> omega
    refine ⟨hm, sc, _, rfl, Int.emod_nonneg _ (by omega), fun v => ?_⟩
    have f0 : atI [D.int a, D.rol (sc.map D.int), D.int (k + 1), D.int b] 0 = some (.int a) := rfl
    have x2 : ixN 4 2 = some 2 := rfl
    have x0 : ixN 4 0 = some 0 := rfl
    try simp only [dSeq, dAsg, dgName, dgTup, dgCons, dgNil, dgSub, dRet, dRetN, dIfS, dDrop, dNext, dBreak, dCont, dAug, dVar, dC, dBin, dTest, dChain, dTru, dNotT, dAndT, dOrT, dAndV, dOrV, dNotV, dIf, dNil, dCons, dTup, dLst, dNewDict, dNeg, dCB, dBM, dBM0, dCall, dYes,   dSl, dNoPart, dPart, qSl, dBack, qBack, dFor, dISeq, dIRng1, dIRng2, dIZip, dLc, dDc,   qAdd, qInt, qInt0, qSub, qMul, qDiv, qMod, qPow, qLt, qLe, qGt, qGe, qIs, qIsNot, qIx, qLen, qAbs, qMax, qMin, qSum, qAll, qAny, qInt_, qStr_, qList_, qTuple_, qDict_, qIsi, qSet, iAdd, iSub, iMul, iDiv, iMod,   mAppend, mExtend, mPop, truD, tyN, isTy, seqD, lstD, keyD, isNonD,   kit_ii, kit_bi, kit_si, kit_ti, kit_li, kit_di, kit_ni, kit_ib, kit_bb, kit_sb, kit_tb, kit_lb, kit_nb, kit_is, kit_ss, kit_ts, kit_ls, kit_ns, kit_it, kit_st, kit_tt, kit_lt, kit_nt, kit_il, kit_tl, kit_ll, kit_dl, kit_nl, kit_dd, kit_nd, kit_ld,   startD, wipeD, List.map_cons, List.map_nil, List.length_cons, List.length_nil, Nat.reduceAdd, Nat.reduceSub, List.replicate_succ, List.replicate_zero, List.cons_append, List.nil_append, List.getElem?_cons_zero, List.getElem?_cons_succ, List.set_cons_zero, List.set_cons_succ,   List.length_append, List.length_set, set_get, Option.map_some, List.set_set, atI_0, atI_1, atI_2, atI_3, atI_4, atI_5, atI_6, List.append_assoc, Nat.add_assoc, getK, getK0, getL, setK, setK0, setL, List.length_map, mJoin, mIndex, mCount, mGet, strsOf, intsOf, blsOf, Option.bind_some, intsD_map, strsD_map, blsD_map, Option.isSome_some, szl, Nat.reduceLeDiff, qEq_ii, qNe_ii, Bool.not_true, Bool.not_false, decT, decF, dDelT, dDisp, dPairs, dFld, dFldS, dMeth, dMake, dIEnum, dAugK, dNever, dListRev, dListRg1, dPar, dListZip, dForD, mSetd, dRaise, dCallX, dMethX, dMakeX, dTryOnly, dTryAs, wipeE, qIsE, clsVal, clsVals, PySem.W.kitAny, eq_self, true_and, hl, x2, x0, f0]
    refine ⟨by unfold CMul; omega, by omega, by unfold CDiv; omega, h0, .same ?_⟩
    exact q _ _ (Int.emod_nonneg _ (by omega)) (Int.emod_lt_of_pos _ h0) ⟨sc, _, _, _, rfl⟩
end
theorem use_off {l : Nat} {most : Int} {o : MO} {M G : Mem} {Q : QD} {E : Addr → Mem → Prop} (hl : l < M.length) (ho : DiceO o) (h0 : 0 < most) (h1 : most < 1073741824)
    (k : ∀ (r : Nat) (o' : MO), (r : Int) < most → DiceO o' → Q (.int r) (M.set l o' ++ G)) : sp_off [.loc l, .int most] (M.set l o ++ G) Q E := by
  refine ⟨l, most, rfl, ⟨o, by rw [getL (by simpa using hl)]; simp [hl], ho⟩, h0, h1, fun r o' a b ho' => ?_⟩
  have h := k r.toNat o' (by omega) ho'
  rw [setL (by simpa using hl), List.set_set]
  rw [show ((r.toNat : Nat) : Int) = r by omega] at h
  exact h
theorem Dice.self {M : Mem} {l : Nat} (h : Dice M l) : ∃ o, DiceO o ∧ l < M.length ∧ M.set l o = M := by
  obtain ⟨o, hl, ho⟩ := h
  have hlt : l < M.length := (List.getElem?_eq_some_iff.mp hl).1
  refine ⟨o, ho, hlt, List.ext_getElem? fun n => ?_⟩
  by_cases h : l = n
  · subst h; rw [List.getElem?_set_self hlt, hl]
  · rw [List.getElem?_set_ne h]
theorem use_offA {l : Nat} {most : Int} {M G : Mem} {Q : QD} {E : Addr → Mem → Prop} (hd : Dice M l) (h0 : 0 < most) (h1 : most < 1073741824)
    (k : ∀ (r : Nat) (o' : MO), (r : Int) < most → DiceO o' → Q (.int r) (M.set l o' ++ G)) : sp_off [.loc l, .int most] (M ++ G) Q E := by
  obtain ⟨o, ho, hlt, e⟩ := hd.self
  have h : sp_off [.loc l, .int most] (M.set l o ++ G) Q E := use_off hlt ho h0 h1 k
  rw [e] at h
  exact h
theorem use_off1 {l : Nat} {most : Int} {o : MO} {M : Mem} {Q : QD} {E : Addr → Mem → Prop} (hl : l < M.length) (ho : DiceO o) (h0 : 0 < most) (h1 : most < 1073741824)
    (k : ∀ (r : Nat) (o' : MO), (r : Int) < most → DiceO o' → Q (.int r) (M.set l o')) : sp_off [.loc l, .int most] (M.set l o) Q E := by
  refine ⟨l, most, rfl, ⟨o, by simp [hl], ho⟩, h0, h1, fun r o' a b ho' => ?_⟩
  have h := k r.toNat o' (by omega) ho'
  rw [List.set_set]
  rw [show ((r.toNat : Nat) : Int) = r by omega] at h
  exact h
theorem use_off0 {l : Nat} {most : Int} {M : Mem} {Q : QD} {E : Addr → Mem → Prop} (hd : Dice M l) (h0 : 0 < most) (h1 : most < 1073741824)
    (k : ∀ (r : Nat) (o' : MO), (r : Int) < most → DiceO o' → Q (.int r) (M.set l o')) : sp_off [.loc l, .int most] M Q E := by
  refine ⟨l, most, rfl, hd, h0, h1, fun r o' a b ho' => ?_⟩
  have h := k r.toNat o' (by omega) ho'
  rw [show ((r.toNat : Nat) : Int) = r by omega] at h
  exact h
theorem Dice.lt {M : Mem} {l : Nat} (h : Dice M l) : l < M.length := by
  obtain ⟨o, e, _⟩ := h
  exact (List.getElem?_eq_some_iff.mp e).1
/-! names -/
def chS (c : Nat) : D := .str ⟨#[c]⟩
def letter (c : Nat) : Prop := 97 ≤ c ∧ c ≤ 122
def nameL (b : List Nat) (at_ turn : Nat) (z : Bool) (i : Nat) : List Nat := b.set at_ (97 + (turn + 7 * i) % 26) ++ (if z then List.replicate (i % 3) 122 else [])
def nameS (b : List Nat) (at_ turn : Nat) (z : Bool) (i : Nat) : Str := ⟨(nameL b at_ turn z i).toArray⟩
theorem tl_nameS (b : List Nat) (at_ turn : Nat) (z : Bool) (i : Nat) : tlS (nameS b at_ turn z i) = nameL b at_ turn z i := by simp [tlS, nameS]
theorem name_good {b : List Nat} {at_ turn : Nat} {z : Bool} {i : Nat} (hb : 1 ≤ b.length ∧ b.length ≤ 6) (hl : ∀ c ∈ b, letter c) : GoodName (nameS b at_ turn z i) := by
  unfold GoodName
  rw [tl_nameS]
  unfold nameL
  have h3 : i % 3 < 3 := Nat.mod_lt _ (by decide)
  refine ⟨by simp; omega, ?_, fun c hc => ?_⟩
  · split <;> simp <;> omega
  · rcases List.mem_append.mp hc with h | h
    · rcases List.mem_or_eq_of_mem_set h with h | h
      · exact hl c h
      · have := Nat.mod_lt (turn + 7 * i) (show 26 > 0 by decide)
        omega
    · split at h
      · have := List.eq_of_mem_replicate h
        omega
      · cases h
theorem name_inj {b : List Nat} {at_ turn : Nat} {z : Bool} {i j : Nat} (ha : at_ < b.length) (hi : i < 26) (hj : j < 26) (h : nameS b at_ turn z i = nameS b at_ turn z j) : i = j := by
  have h1 : nameL b at_ turn z i = nameL b at_ turn z j := by rw [← tl_nameS, ← tl_nameS, h]
  have h2 := congrArg (fun l => l[at_]?) h1
  have e : ∀ k, (nameL b at_ turn z k)[at_]? = some (97 + (turn + 7 * k) % 26) := fun k => by
    unfold nameL
    rw [List.getElem?_append_left (by simpa using ha), List.getElem?_set_self ha]
  simp only [e] at h2
  injection h2 with h2
  omega
def tlz (z : Bool) (i : Nat) : Str := if z then ⟨(List.replicate i 122).toArray⟩ else ⟨#[]⟩
theorem join_name {b cs : List Nat} {at_ turn : Nat} {z : Bool} {i : Nat} (h : b = cs.set at_ (97 + (turn + 7 * i) % 26)) : Txt.join ("" : Str) (b.map fun c => ⟨#[c]⟩) ++ tlz z (i % 3) = nameS cs at_ turn z i := by
  apply TL.ext_tl
  rw [TL.tl_append]
  have e1 : TL.tl (Txt.join ("" : Str) (b.map fun c => ⟨#[c]⟩)) = b := by
    rw [TL.join_eq, TL.tl_join, List.map_map]
    have e0 : TL.tl ("" : Str) = [] := by decide +kernel
    rw [e0]
    clear h
    induction b with
    | nil => rfl
    | cons x r ih =>
      cases r with
      | nil => rfl
      | cons y r => 
        simp only [List.map_cons] at ih ⊢
        unfold TL.joinL
        rw [ih]
        rfl
  rw [e1, h]
  show _ = (nameL cs at_ turn z i).toArray.toList
  unfold nameL tlz
  cases z <;> simp [TL.tl]
theorem sum_ones (b : List Nat) : ((b.map fun c => (⟨#[c]⟩ : Str)).map fun x => x.length).sum = b.length := by
  induction b with
  | nil => rfl
  | cons x r ih =>
    simp only [List.map_cons, List.sum_cons, List.length_cons, ih]
    show 1 + r.length = r.length + 1
    omega
theorem nameS_len {b : List Nat} {at_ turn : Nat} {z : Bool} {i : Nat} (h : b.length ≤ 6) : (nameS b at_ turn z i).length ≤ 8 := by
  show (nameL b at_ turn z i).toArray.size ≤ 8
  have h3 : i % 3 < 3 := Nat.mod_lt _ (by decide)
  unfold nameL
  cases z <;> simp <;> omega
theorem nodup_map {α β : Type} {f : α → β} : ∀ {l : List α}, l.Nodup → (∀ x ∈ l, ∀ y ∈ l, f x = f y → x = y) → (l.map f).Nodup
  | [], _, _ => List.nodup_nil
  | a :: l, h, k => by
    rw [List.nodup_cons] at h
    rw [List.map_cons, List.nodup_cons]
    refine ⟨fun hm => ?_, nodup_map h.2 fun x hx y hy e => k x (List.mem_cons_of_mem _ hx) y (List.mem_cons_of_mem _ hy) e⟩
    obtain ⟨b, hb, e⟩ := List.mem_map.mp hm
    have := k b (List.mem_cons_of_mem _ hb) a (List.mem_cons_self ..) e
    rw [this] at hb
    exact h.1 hb
theorem strsD_chS (b : List Nat) : strsD (b.map chS) = some (b.map fun c => ⟨#[c]⟩) := by
  have : b.map chS = (b.map fun c => (⟨#[c]⟩ : Str)).map D.str := by rw [List.map_map]; rfl
  rw [this, strsD_map]
def sp_names : DSp := fun ds M Q _ => ∃ (l : Nat) (many : Nat), ds = [.loc l, .int many] ∧ many ≤ 26 ∧ Dice M l ∧ ∀ (o : MO) (ns : List Str), DiceO o → ns.length = many → (∀ n ∈ ns, GoodName n) → ns.Nodup → Q (.loc M.length) (M.set l o ++ [.lst (ns.map D.str)])
theorem abc_at {r : Int} (h0 : 0 ≤ r) (h1 : r < 26) : atI (Str.cps ("abcdefghijklmnopqrstuvwxyz" : Str)).toList r = some (97 + r.toNat) := by
  have h : ∀ n : Fin 26, atI (Str.cps ("abcdefghijklmnopqrstuvwxyz" : Str)).toList (n.val : Int) = some (97 + n.val) := by decide +kernel
  have := h ⟨r.toNat, by omega⟩
  have e : ((r.toNat : Nat) : Int) = r := by omega
  simp only [e] at this
  exact this
theorem abc_len : (("abcdefghijklmnopqrstuvwxyz" : Str)).length ≤ sizeLine := by decide +kernel
section
variable {P : Program} {w : World} {K : PySem.W.Frag} {mg : Str → Option Value} {base : Heap}
theorem fn_names (T : Top K mg) : DFn P w K mg base CX0 3 "_law_names" ["_law_d", "_law_many"] sp_names := by
  have F__law_off := fn_off (P := P) (w := w) (base := base) T
  obtain ⟨fd, F⟩ := T.d__law_names
  have sc := sc__law_names
  refine DFn.ofD (k := 2) F T.g__law_names (FunD.bindsN F fun _ _ _ _ _ _ us hl => match us, hl with | [_, _], _ => rfl) sc ?len ⟨_, fun cdv A outer s H E m0 hr => (
      (dss_cons (ds_set 2 sc.nd de_str)
      (dss_cons (ds_setLc 3 8 (own := [("_law_k", 8)]) rfl sc.nd (di_rng1 T.n_range (da_cons (de_bin dop_add de_int (de_call F__law_off (hr.mono (by omega)) pass0 (da_cons (de_var 0) (da_cons de_int da_nil)))) da_nil)) (show blkC ["_law_d", "_law_many", "_law_letters", "_law_base", "_law_at", "_law_turn", "_law_tails", "_law_found", "_law_k"] (defScope s__law_names) _ [("_law_k", 8)] = true by decide +kernel) (by decide) (sw_true rfl rfl rfl (by decide +kernel)) (fun _ _ _ _ _ => pg_name (i := 8) sc.nd rfl (by first | exact Or.inl rfl | exact Or.inr rfl)) (fun _ _ _ _ _ => dts_nil) (fun _ _ _ _ _ => (de_ix hr (de_var 2) (de_call F__law_off (hr.mono (by omega)) pass0 (da_cons (de_var 0) (da_cons de_int da_nil))))))
      (dss_cons (ds_set 4 sc.nd (de_call F__law_off (hr.mono (by omega)) pass0 (da_cons (de_var 0) (da_cons (de_cb T.n_len dc_len b_len (da_cons (de_var 3) da_nil)) da_nil))))
      (dss_cons (ds_set 5 sc.nd (de_call F__law_off (hr.mono (by omega)) pass0 (da_cons (de_var 0) (da_cons de_int da_nil))))
      (dss_cons (ds_set 6 sc.nd (de_ix hr (de_lst (da_cons (de_lst (da_cons de_str (da_cons de_str (da_cons de_str da_nil)))) (da_cons (de_lst (da_cons de_str (da_cons de_str (da_cons de_str da_nil)))) da_nil))) (de_call F__law_off (hr.mono (by omega)) pass0 (da_cons (de_var 0) (da_cons de_int da_nil)))))
      (dss_cons (ds_set 7 sc.nd (de_lst da_nil))
      (dss_cons (ds_for PassesOwn.never rfl (di_rng1 T.n_range (da_cons (de_var 1) da_nil)) (dg_name 8 sc.nd) (dss_cons (ds_asg (de_ix hr (de_var 2) (de_bin dop_mod (de_bin dop_add (de_var 5) (de_bin dop_mul de_int (de_var 8))) de_int)) (dg_sub hr (de_var 3) (de_var 4)))
      (dss_one (ds_expr (de_bm PySem.F.plainAttrs_list PySem.F.slot_list_append PySem.F.type_list_append dm_append (de_var 7) (da_cons (de_bin dop_add (de_bm PySem.F.plainAttrs_str PySem.F.slot_str_join PySem.F.type_str_join dm_join de_str (da_cons (de_var 3) da_nil)) (de_ix hr (de_var 6) (de_bin dop_mod (de_var 8) de_int))) da_nil))))))
      (dss_one (ds_ret (de_var 7))))))))))), ?_⟩
  case len =>
    rintro ds M Q E ⟨l, many, rfl, _⟩
    rfl
  rintro ds M Qd Ed ⟨l, many, rfl, hmany, hd, q⟩ hM
  try simp only [dSeq, dAsg, dgName, dgTup, dgCons, dgNil, dgSub, dRet, dRetN, dIfS, dDrop, dNext, dBreak, dCont, dAug, dVar, dC, dBin, dTest, dChain, dTru, dNotT, dAndT, dOrT, dAndV, dOrV, dNotV, dIf, dNil, dCons, dTup, dLst, dNewDict, dNeg, dCB, dBM, dBM0, dCall, dYes,   dSl, dNoPart, dPart, qSl, dBack, qBack, dFor, dISeq, dIRng1, dIRng2, dIZip, dLc, dDc,   qAdd, qInt, qInt0, qSub, qMul, qDiv, qMod, qPow, qLt, qLe, qGt, qGe, qIs, qIsNot, qIx, qLen, qAbs, qMax, qMin, qSum, qAll, qAny, qInt_, qStr_, qList_, qTuple_, qDict_, qIsi, qSet, iAdd, iSub, iMul, iDiv, iMod,   mAppend, mExtend, mPop, truD, tyN, isTy, seqD, lstD, keyD, isNonD,   kit_ii, kit_bi, kit_si, kit_ti, kit_li, kit_di, kit_ni, kit_ib, kit_bb, kit_sb, kit_tb, kit_lb, kit_nb, kit_is, kit_ss, kit_ts, kit_ls, kit_ns, kit_it, kit_st, kit_tt, kit_lt, kit_nt, kit_il, kit_tl, kit_ll, kit_dl, kit_nl, kit_dd, kit_nd, kit_ld,   startD, wipeD, List.map_cons, List.map_nil, List.length_cons, List.length_nil, Nat.reduceAdd, Nat.reduceSub, List.replicate_succ, List.replicate_zero, List.cons_append, List.nil_append, List.getElem?_cons_zero, List.getElem?_cons_succ, List.set_cons_zero, List.set_cons_succ,   List.length_append, List.length_set, set_get, Option.map_some, List.set_set, atI_0, atI_1, atI_2, atI_3, atI_4, atI_5, atI_6, List.append_assoc, Nat.add_assoc, getK, getK0, getL, setK, setK0, setL, List.length_map, mJoin, mIndex, mCount, mGet, strsOf, intsOf, blsOf, Option.bind_some, intsD_map, strsD_map, blsD_map, Option.isSome_some, szl, Nat.reduceLeDiff, qEq_ii, qNe_ii, Bool.not_true, Bool.not_false, decT, decF, dDelT, dDisp, dPairs, dFld, dFldS, dMeth, dMake, dIEnum, dAugK, dNever, dListRev, dListRg1, dPar, dListZip, dForD, mSetd, dRaise, dCallX, dMethX, dMakeX, dTryOnly, dTryAs, wipeE, qIsE, clsVal, clsVals, PySem.W.kitAny, eq_self, true_and]
  have hlt := hd.lt
  refine use_off0 hd (by omega) (by omega) fun r1 o1 h11 ho1 => ?_
  try simp only [dSeq, dAsg, dgName, dgTup, dgCons, dgNil, dgSub, dRet, dRetN, dIfS, dDrop, dNext, dBreak, dCont, dAug, dVar, dC, dBin, dTest, dChain, dTru, dNotT, dAndT, dOrT, dAndV, dOrV, dNotV, dIf, dNil, dCons, dTup, dLst, dNewDict, dNeg, dCB, dBM, dBM0, dCall, dYes,   dSl, dNoPart, dPart, qSl, dBack, qBack, dFor, dISeq, dIRng1, dIRng2, dIZip, dLc, dDc,   qAdd, qInt, qInt0, qSub, qMul, qDiv, qMod, qPow, qLt, qLe, qGt, qGe, qIs, qIsNot, qIx, qLen, qAbs, qMax, qMin, qSum, qAll, qAny, qInt_, qStr_, qList_, qTuple_, qDict_, qIsi, qSet, iAdd, iSub, iMul, iDiv, iMod,   mAppend, mExtend, mPop, truD, tyN, isTy, seqD, lstD, keyD, isNonD,   kit_ii, kit_bi, kit_si, kit_ti, kit_li, kit_di, kit_ni, kit_ib, kit_bb, kit_sb, kit_tb, kit_lb, kit_nb, kit_is, kit_ss, kit_ts, kit_ls, kit_ns, kit_it, kit_st, kit_tt, kit_lt, kit_nt, kit_il, kit_tl, kit_ll, kit_dl, kit_nl, kit_dd, kit_nd, kit_ld,   startD, wipeD, List.map_cons, List.map_nil, List.length_cons, List.length_nil, Nat.reduceAdd, Nat.reduceSub, List.replicate_succ, List.replicate_zero, List.cons_append, List.nil_append, List.getElem?_cons_zero, List.getElem?_cons_succ, List.set_cons_zero, List.set_cons_succ,   List.length_append, List.length_set, set_get, Option.map_some, List.set_set, atI_0, atI_1, atI_2, atI_3, atI_4, atI_5, atI_6, List.append_assoc, Nat.add_assoc, getK, getK0, getL, setK, setK0, setL, List.length_map, mJoin, mIndex, mCount, mGet, strsOf, intsOf, blsOf, Option.bind_some, intsD_map, strsD_map, blsD_map, Option.isSome_some, szl, Nat.reduceLeDiff, qEq_ii, qNe_ii, Bool.not_true, Bool.not_false, decT, decF, dDelT, dDisp, dPairs, dFld, dFldS, dMeth, dMake, dIEnum, dAugK, dNever, dListRev, dListRg1, dPar, dListZip, dForD, mSetd, dRaise, dCallX, dMethX, dMakeX, dTryOnly, dTryAs, wipeE, qIsE, clsVal, clsVals, PySem.W.kitAny, eq_self, true_and]
  refine ⟨by omega, ?_⟩
  refine lcGo_ind (fun items M' acc => ∃ o cs, DiceO o ∧ M' = M.set l o ∧ acc = cs.map chS ∧ cs.length + items.length = 1 + r1 ∧ ∀ c ∈ cs, letter c) ?_ ?_ _ _ _ ⟨o1, [], ho1, rfl, rfl, by simp [rngD]; omega, by simp⟩
  · rintro x rest M' acc ⟨o, cs, ho, rfl, rfl, hlen, hcs⟩ ih
    refine ⟨trivial, ?_⟩
    try simp only [dSeq, dAsg, dgName, dgTup, dgCons, dgNil, dgSub, dRet, dRetN, dIfS, dDrop, dNext, dBreak, dCont, dAug, dVar, dC, dBin, dTest, dChain, dTru, dNotT, dAndT, dOrT, dAndV, dOrV, dNotV, dIf, dNil, dCons, dTup, dLst, dNewDict, dNeg, dCB, dBM, dBM0, dCall, dYes,   dSl, dNoPart, dPart, qSl, dBack, qBack, dFor, dISeq, dIRng1, dIRng2, dIZip, dLc, dDc,   qAdd, qInt, qInt0, qSub, qMul, qDiv, qMod, qPow, qLt, qLe, qGt, qGe, qIs, qIsNot, qIx, qLen, qAbs, qMax, qMin, qSum, qAll, qAny, qInt_, qStr_, qList_, qTuple_, qDict_, qIsi, qSet, iAdd, iSub, iMul, iDiv, iMod,   mAppend, mExtend, mPop, truD, tyN, isTy, seqD, lstD, keyD, isNonD,   kit_ii, kit_bi, kit_si, kit_ti, kit_li, kit_di, kit_ni, kit_ib, kit_bb, kit_sb, kit_tb, kit_lb, kit_nb, kit_is, kit_ss, kit_ts, kit_ls, kit_ns, kit_it, kit_st, kit_tt, kit_lt, kit_nt, kit_il, kit_tl, kit_ll, kit_dl, kit_nl, kit_dd, kit_nd, kit_ld,   startD, wipeD, List.map_cons, List.map_nil, List.length_cons, List.length_nil, Nat.reduceAdd, Nat.reduceSub, List.replicate_succ, List.replicate_zero, List.cons_append, List.nil_append, List.getElem?_cons_zero, List.getElem?_cons_succ, List.set_cons_zero, List.set_cons_succ,   List.length_append, List.length_set, set_get, Option.map_some, List.set_set, atI_0, atI_1, atI_2, atI_3, atI_4, atI_5, atI_6, List.append_assoc, Nat.add_assoc, getK, getK0, getL, setK, setK0, setL, List.length_map, mJoin, mIndex, mCount, mGet, strsOf, intsOf, blsOf, Option.bind_some, intsD_map, strsD_map, blsD_map, Option.isSome_some, szl, Nat.reduceLeDiff, qEq_ii, qNe_ii, Bool.not_true, Bool.not_false, decT, decF, dDelT, dDisp, dPairs, dFld, dFldS, dMeth, dMake, dIEnum, dAugK, dNever, dListRev, dListRg1, dPar, dListZip, dForD, mSetd, dRaise, dCallX, dMethX, dMakeX, dTryOnly, dTryAs, wipeE, qIsE, clsVal, clsVals, PySem.W.kitAny, eq_self, true_and]
    refine use_off1 hlt ho (by omega) (by omega) fun r o2 h2 ho2 => ?_
    try simp only [dSeq, dAsg, dgName, dgTup, dgCons, dgNil, dgSub, dRet, dRetN, dIfS, dDrop, dNext, dBreak, dCont, dAug, dVar, dC, dBin, dTest, dChain, dTru, dNotT, dAndT, dOrT, dAndV, dOrV, dNotV, dIf, dNil, dCons, dTup, dLst, dNewDict, dNeg, dCB, dBM, dBM0, dCall, dYes,   dSl, dNoPart, dPart, qSl, dBack, qBack, dFor, dISeq, dIRng1, dIRng2, dIZip, dLc, dDc,   qAdd, qInt, qInt0, qSub, qMul, qDiv, qMod, qPow, qLt, qLe, qGt, qGe, qIs, qIsNot, qIx, qLen, qAbs, qMax, qMin, qSum, qAll, qAny, qInt_, qStr_, qList_, qTuple_, qDict_, qIsi, qSet, iAdd, iSub, iMul, iDiv, iMod,   mAppend, mExtend, mPop, truD, tyN, isTy, seqD, lstD, keyD, isNonD,   kit_ii, kit_bi, kit_si, kit_ti, kit_li, kit_di, kit_ni, kit_ib, kit_bb, kit_sb, kit_tb, kit_lb, kit_nb, kit_is, kit_ss, kit_ts, kit_ls, kit_ns, kit_it, kit_st, kit_tt, kit_lt, kit_nt, kit_il, kit_tl, kit_ll, kit_dl, kit_nl, kit_dd, kit_nd, kit_ld,   startD, wipeD, List.map_cons, List.map_nil, List.length_cons, List.length_nil, Nat.reduceAdd, Nat.reduceSub, List.replicate_succ, List.replicate_zero, List.cons_append, List.nil_append, List.getElem?_cons_zero, List.getElem?_cons_succ, List.set_cons_zero, List.set_cons_succ,   List.length_append, List.length_set, set_get, Option.map_some, List.set_set, atI_0, atI_1, atI_2, atI_3, atI_4, atI_5, atI_6, List.append_assoc, Nat.add_assoc, getK, getK0, getL, setK, setK0, setL, List.length_map, mJoin, mIndex, mCount, mGet, strsOf, intsOf, blsOf, Option.bind_some, intsD_map, strsD_map, blsD_map, Option.isSome_some, szl, Nat.reduceLeDiff, qEq_ii, qNe_ii, Bool.not_true, Bool.not_false, decT, decF, dDelT, dDisp, dPairs, dFld, dFldS, dMeth, dMake, dIEnum, dAugK, dNever, dListRev, dListRg1, dPar, dListZip, dForD, mSetd, dRaise, dCallX, dMethX, dMakeX, dTryOnly, dTryAs, wipeE, qIsE, clsVal, clsVals, PySem.W.kitAny, eq_self, true_and]
    refine ⟨abc_len, ?_⟩
    rw [abc_at (by omega) h2]
    try simp only [dSeq, dAsg, dgName, dgTup, dgCons, dgNil, dgSub, dRet, dRetN, dIfS, dDrop, dNext, dBreak, dCont, dAug, dVar, dC, dBin, dTest, dChain, dTru, dNotT, dAndT, dOrT, dAndV, dOrV, dNotV, dIf, dNil, dCons, dTup, dLst, dNewDict, dNeg, dCB, dBM, dBM0, dCall, dYes,   dSl, dNoPart, dPart, qSl, dBack, qBack, dFor, dISeq, dIRng1, dIRng2, dIZip, dLc, dDc,   qAdd, qInt, qInt0, qSub, qMul, qDiv, qMod, qPow, qLt, qLe, qGt, qGe, qIs, qIsNot, qIx, qLen, qAbs, qMax, qMin, qSum, qAll, qAny, qInt_, qStr_, qList_, qTuple_, qDict_, qIsi, qSet, iAdd, iSub, iMul, iDiv, iMod,   mAppend, mExtend, mPop, truD, tyN, isTy, seqD, lstD, keyD, isNonD,   kit_ii, kit_bi, kit_si, kit_ti, kit_li, kit_di, kit_ni, kit_ib, kit_bb, kit_sb, kit_tb, kit_lb, kit_nb, kit_is, kit_ss, kit_ts, kit_ls, kit_ns, kit_it, kit_st, kit_tt, kit_lt, kit_nt, kit_il, kit_tl, kit_ll, kit_dl, kit_nl, kit_dd, kit_nd, kit_ld,   startD, wipeD, List.map_cons, List.map_nil, List.length_cons, List.length_nil, Nat.reduceAdd, Nat.reduceSub, List.replicate_succ, List.replicate_zero, List.cons_append, List.nil_append, List.getElem?_cons_zero, List.getElem?_cons_succ, List.set_cons_zero, List.set_cons_succ,   List.length_append, List.length_set, set_get, Option.map_some, List.set_set, atI_0, atI_1, atI_2, atI_3, atI_4, atI_5, atI_6, List.append_assoc, Nat.add_assoc, getK, getK0, getL, setK, setK0, setL, List.length_map, mJoin, mIndex, mCount, mGet, strsOf, intsOf, blsOf, Option.bind_some, intsD_map, strsD_map, blsD_map, Option.isSome_some, szl, Nat.reduceLeDiff, qEq_ii, qNe_ii, Bool.not_true, Bool.not_false, decT, decF, dDelT, dDisp, dPairs, dFld, dFldS, dMeth, dMake, dIEnum, dAugK, dNever, dListRev, dListRg1, dPar, dListZip, dForD, mSetd, dRaise, dCallX, dMethX, dMakeX, dTryOnly, dTryAs, wipeE, qIsE, clsVal, clsVals, PySem.W.kitAny, eq_self, true_and]
    refine ⟨by simp at hlen ⊢; omega, ih _ _ ⟨o2, cs ++ [97 + r], ho2, rfl, by simp [chS], by simp at hlen ⊢; omega, ?_⟩⟩
    intro c hc
    rcases List.mem_append.mp hc with h | h
    · exact hcs c h
    · have : c = 97 + r := by simpa using h
      unfold letter
      omega
  rintro M' acc ⟨o, cs, ho, rfl, rfl, hlen, hcs⟩
  refine ⟨trivial, ?_⟩
  simp only [List.length_nil, Nat.add_zero] at hlen
  try simp only [dSeq, dAsg, dgName, dgTup, dgCons, dgNil, dgSub, dRet, dRetN, dIfS, dDrop, dNext, dBreak, dCont, dAug, dVar, dC, dBin, dTest, dChain, dTru, dNotT, dAndT, dOrT, dAndV, dOrV, dNotV, dIf, dNil, dCons, dTup, dLst, dNewDict, dNeg, dCB, dBM, dBM0, dCall, dYes,   dSl, dNoPart, dPart, qSl, dBack, qBack, dFor, dISeq, dIRng1, dIRng2, dIZip, dLc, dDc,   qAdd, qInt, qInt0, qSub, qMul, qDiv, qMod, qPow, qLt, qLe, qGt, qGe, qIs, qIsNot, qIx, qLen, qAbs, qMax, qMin, qSum, qAll, qAny, qInt_, qStr_, qList_, qTuple_, qDict_, qIsi, qSet, iAdd, iSub, iMul, iDiv, iMod,   mAppend, mExtend, mPop, truD, tyN, isTy, seqD, lstD, keyD, isNonD,   kit_ii, kit_bi, kit_si, kit_ti, kit_li, kit_di, kit_ni, kit_ib, kit_bb, kit_sb, kit_tb, kit_lb, kit_nb, kit_is, kit_ss, kit_ts, kit_ls, kit_ns, kit_it, kit_st, kit_tt, kit_lt, kit_nt, kit_il, kit_tl, kit_ll, kit_dl, kit_nl, kit_dd, kit_nd, kit_ld,   startD, wipeD, List.map_cons, List.map_nil, List.length_cons, List.length_nil, Nat.reduceAdd, Nat.reduceSub, List.replicate_succ, List.replicate_zero, List.cons_append, List.nil_append, List.getElem?_cons_zero, List.getElem?_cons_succ, List.set_cons_zero, List.set_cons_succ,   List.length_append, List.length_set, set_get, Option.map_some, List.set_set, atI_0, atI_1, atI_2, atI_3, atI_4, atI_5, atI_6, List.append_assoc, Nat.add_assoc, getK, getK0, getL, setK, setK0, setL, List.length_map, mJoin, mIndex, mCount, mGet, strsOf, intsOf, blsOf, Option.bind_some, intsD_map, strsD_map, blsD_map, Option.isSome_some, szl, Nat.reduceLeDiff, qEq_ii, qNe_ii, Bool.not_true, Bool.not_false, decT, decF, dDelT, dDisp, dPairs, dFld, dFldS, dMeth, dMake, dIEnum, dAugK, dNever, dListRev, dListRg1, dPar, dListZip, dForD, mSetd, dRaise, dCallX, dMethX, dMakeX, dTryOnly, dTryAs, wipeE, qIsE, clsVal, clsVals, PySem.W.kitAny, eq_self, true_and, hlt]
  refine use_off hlt ho (by omega) (by omega) fun at_ o2 h2 ho2 => ?_
  try simp only [dSeq, dAsg, dgName, dgTup, dgCons, dgNil, dgSub, dRet, dRetN, dIfS, dDrop, dNext, dBreak, dCont, dAug, dVar, dC, dBin, dTest, dChain, dTru, dNotT, dAndT, dOrT, dAndV, dOrV, dNotV, dIf, dNil, dCons, dTup, dLst, dNewDict, dNeg, dCB, dBM, dBM0, dCall, dYes,   dSl, dNoPart, dPart, qSl, dBack, qBack, dFor, dISeq, dIRng1, dIRng2, dIZip, dLc, dDc,   qAdd, qInt, qInt0, qSub, qMul, qDiv, qMod, qPow, qLt, qLe, qGt, qGe, qIs, qIsNot, qIx, qLen, qAbs, qMax, qMin, qSum, qAll, qAny, qInt_, qStr_, qList_, qTuple_, qDict_, qIsi, qSet, iAdd, iSub, iMul, iDiv, iMod,   mAppend, mExtend, mPop, truD, tyN, isTy, seqD, lstD, keyD, isNonD,   kit_ii, kit_bi, kit_si, kit_ti, kit_li, kit_di, kit_ni, kit_ib, kit_bb, kit_sb, kit_tb, kit_lb, kit_nb, kit_is, kit_ss, kit_ts, kit_ls, kit_ns, kit_it, kit_st, kit_tt, kit_lt, kit_nt, kit_il, kit_tl, kit_ll, kit_dl, kit_nl, kit_dd, kit_nd, kit_ld,   startD, wipeD, List.map_cons, List.map_nil, List.length_cons, List.length_nil, Nat.reduceAdd, Nat.reduceSub, List.replicate_succ, List.replicate_zero, List.cons_append, List.nil_append, List.getElem?_cons_zero, List.getElem?_cons_succ, List.set_cons_zero, List.set_cons_succ,   List.length_append, List.length_set, set_get, Option.map_some, List.set_set, atI_0, atI_1, atI_2, atI_3, atI_4, atI_5, atI_6, List.append_assoc, Nat.add_assoc, getK, getK0, getL, setK, setK0, setL, List.length_map, mJoin, mIndex, mCount, mGet, strsOf, intsOf, blsOf, Option.bind_some, intsD_map, strsD_map, blsD_map, Option.isSome_some, szl, Nat.reduceLeDiff, qEq_ii, qNe_ii, Bool.not_true, Bool.not_false, decT, decF, dDelT, dDisp, dPairs, dFld, dFldS, dMeth, dMake, dIEnum, dAugK, dNever, dListRev, dListRg1, dPar, dListZip, dForD, mSetd, dRaise, dCallX, dMethX, dMakeX, dTryOnly, dTryAs, wipeE, qIsE, clsVal, clsVals, PySem.W.kitAny, eq_self, true_and, hlt]
  refine use_off hlt ho2 (by omega) (by omega) fun turn o3 h3 ho3 => ?_
  try simp only [dSeq, dAsg, dgName, dgTup, dgCons, dgNil, dgSub, dRet, dRetN, dIfS, dDrop, dNext, dBreak, dCont, dAug, dVar, dC, dBin, dTest, dChain, dTru, dNotT, dAndT, dOrT, dAndV, dOrV, dNotV, dIf, dNil, dCons, dTup, dLst, dNewDict, dNeg, dCB, dBM, dBM0, dCall, dYes,   dSl, dNoPart, dPart, qSl, dBack, qBack, dFor, dISeq, dIRng1, dIRng2, dIZip, dLc, dDc,   qAdd, qInt, qInt0, qSub, qMul, qDiv, qMod, qPow, qLt, qLe, qGt, qGe, qIs, qIsNot, qIx, qLen, qAbs, qMax, qMin, qSum, qAll, qAny, qInt_, qStr_, qList_, qTuple_, qDict_, qIsi, qSet, iAdd, iSub, iMul, iDiv, iMod,   mAppend, mExtend, mPop, truD, tyN, isTy, seqD, lstD, keyD, isNonD,   kit_ii, kit_bi, kit_si, kit_ti, kit_li, kit_di, kit_ni, kit_ib, kit_bb, kit_sb, kit_tb, kit_lb, kit_nb, kit_is, kit_ss, kit_ts, kit_ls, kit_ns, kit_it, kit_st, kit_tt, kit_lt, kit_nt, kit_il, kit_tl, kit_ll, kit_dl, kit_nl, kit_dd, kit_nd, kit_ld,   startD, wipeD, List.map_cons, List.map_nil, List.length_cons, List.length_nil, Nat.reduceAdd, Nat.reduceSub, List.replicate_succ, List.replicate_zero, List.cons_append, List.nil_append, List.getElem?_cons_zero, List.getElem?_cons_succ, List.set_cons_zero, List.set_cons_succ,   List.length_append, List.length_set, set_get, Option.map_some, List.set_set, atI_0, atI_1, atI_2, atI_3, atI_4, atI_5, atI_6, List.append_assoc, Nat.add_assoc, getK, getK0, getL, setK, setK0, setL, List.length_map, mJoin, mIndex, mCount, mGet, strsOf, intsOf, blsOf, Option.bind_some, intsD_map, strsD_map, blsD_map, Option.isSome_some, szl, Nat.reduceLeDiff, qEq_ii, qNe_ii, Bool.not_true, Bool.not_false, decT, decF, dDelT, dDisp, dPairs, dFld, dFldS, dMeth, dMake, dIEnum, dAugK, dNever, dListRev, dListRg1, dPar, dListZip, dForD, mSetd, dRaise, dCallX, dMethX, dMakeX, dTryOnly, dTryAs, wipeE, qIsE, clsVal, clsVals, PySem.W.kitAny, eq_self, true_and, hlt]
  refine use_off hlt ho3 (by omega) (by omega) fun zz o4 h4 ho4 => ?_
  try simp only [dSeq, dAsg, dgName, dgTup, dgCons, dgNil, dgSub, dRet, dRetN, dIfS, dDrop, dNext, dBreak, dCont, dAug, dVar, dC, dBin, dTest, dChain, dTru, dNotT, dAndT, dOrT, dAndV, dOrV, dNotV, dIf, dNil, dCons, dTup, dLst, dNewDict, dNeg, dCB, dBM, dBM0, dCall, dYes,   dSl, dNoPart, dPart, qSl, dBack, qBack, dFor, dISeq, dIRng1, dIRng2, dIZip, dLc, dDc,   qAdd, qInt, qInt0, qSub, qMul, qDiv, qMod, qPow, qLt, qLe, qGt, qGe, qIs, qIsNot, qIx, qLen, qAbs, qMax, qMin, qSum, qAll, qAny, qInt_, qStr_, qList_, qTuple_, qDict_, qIsi, qSet, iAdd, iSub, iMul, iDiv, iMod,   mAppend, mExtend, mPop, truD, tyN, isTy, seqD, lstD, keyD, isNonD,   kit_ii, kit_bi, kit_si, kit_ti, kit_li, kit_di, kit_ni, kit_ib, kit_bb, kit_sb, kit_tb, kit_lb, kit_nb, kit_is, kit_ss, kit_ts, kit_ls, kit_ns, kit_it, kit_st, kit_tt, kit_lt, kit_nt, kit_il, kit_tl, kit_ll, kit_dl, kit_nl, kit_dd, kit_nd, kit_ld,   startD, wipeD, List.map_cons, List.map_nil, List.length_cons, List.length_nil, Nat.reduceAdd, Nat.reduceSub, List.replicate_succ, List.replicate_zero, List.cons_append, List.nil_append, List.getElem?_cons_zero, List.getElem?_cons_succ, List.set_cons_zero, List.set_cons_succ,   List.length_append, List.length_set, set_get, Option.map_some, List.set_set, atI_0, atI_1, atI_2, atI_3, atI_4, atI_5, atI_6, List.append_assoc, Nat.add_assoc, getK, getK0, getL, setK, setK0, setL, List.length_map, mJoin, mIndex, mCount, mGet, strsOf, intsOf, blsOf, Option.bind_some, intsD_map, strsD_map, blsD_map, Option.isSome_some, szl, Nat.reduceLeDiff, qEq_ii, qNe_ii, Bool.not_true, Bool.not_false, decT, decF, dDelT, dDisp, dPairs, dFld, dFldS, dMeth, dMake, dIEnum, dAugK, dNever, dListRev, dListRg1, dPar, dListZip, dForD, mSetd, dRaise, dCallX, dMethX, dMakeX, dTryOnly, dTryAs, wipeE, qIsE, clsVal, clsVals, PySem.W.kitAny, eq_self, true_and, hlt]
  obtain ⟨z, ti, hz, e⟩ : ∃ z ti, (ti = 1 ∧ z = false ∨ ti = 2 ∧ z = true) ∧ atI [D.loc (List.length M + 1), D.loc (List.length M + 2)] (zz : Int) = some (.loc (List.length M + ti)) := by
    have : zz = 0 ∨ zz = 1 := by omega
    rcases this with rfl | rfl
    · exact ⟨false, 1, .inl ⟨rfl, rfl⟩, rfl⟩
    · exact ⟨true, 2, .inr ⟨rfl, rfl⟩, rfl⟩
  rw [e]
  refine ⟨⟨by omega, by omega⟩, ?_⟩
  have hat : at_ < cs.length := by omega
  have htl : ∀ (b : MO) (f T : MO), [b, MO.lst [D.str (Str.ofString ""), D.str (Str.ofString ""), D.str (Str.ofString "")], MO.lst [D.str (Str.ofString ""), D.str (Str.ofString "z"), D.str (Str.ofString "zz")], T, f][ti]? =
      some (.lst [.str (tlz z 0), .str (tlz z 1), .str (tlz z 2)]) := fun b f T => by
    rcases hz with ⟨rfl, rfl⟩ | ⟨rfl, rfl⟩
    · have : (Str.ofString "") = tlz false 0 ∧ (Str.ofString "") = tlz false 1 ∧ (Str.ofString "") = tlz false 2 := by decide +kernel
      rw [← this.1, ← this.2.1]
      rfl
    · have : (Str.ofString "") = tlz true 0 ∧ (Str.ofString "z") = tlz true 1 ∧ (Str.ofString "zz") = tlz true 2 := by decide +kernel
      rw [← this.1, ← this.2.1, ← this.2.2]
      rfl
  refine forGo_ind (fun items r M' => ∃ (j n : Nat) (b : List Nat) (v : Option D), items = rngD j n ∧ j + n = many ∧ b.length = cs.length ∧ (∀ x, b.set at_ x = cs.set at_ x) ∧
      r = [some (D.loc l), some (D.int ↑many), some (D.str (Str.ofString "abcdefghijklmnopqrstuvwxyz")), some (D.loc (List.length M)), some (D.int ↑at_), some (D.int ↑turn), some (D.loc (List.length M + ti)), some (D.loc (List.length M + 4)), v] ∧
      M' = M.set l o4 ++ [MO.lst (b.map chS), MO.lst [D.str (Str.ofString ""), D.str (Str.ofString ""), D.str (Str.ofString "")], MO.lst [D.str (Str.ofString ""), D.str (Str.ofString "z"), D.str (Str.ofString "zz")],
        MO.lst [D.loc (List.length M + 1), D.loc (List.length M + 2)], MO.lst (((List.range j).map (nameS cs at_ turn z)).map D.str)]) ?_ ?_ _ _ _ ⟨0, many, cs, none, rfl, by omega, rfl, fun _ => rfl, rfl, rfl⟩
  · rintro x rest r M' ⟨j, n, b, v, hi, hjn, hbl, hbs, rfl, rfl⟩ ih
    refine ⟨trivial, ?_⟩
    cases n with
    | zero => rw [rngD_zero] at hi; cases hi
    | succ n =>
    rw [rngD_succ] at hi
    injection hi with hx hr
    subst hx hr
    have hA : atI (Str.cps (Str.ofString "abcdefghijklmnopqrstuvwxyz")).toList ((turn + 7 * j : Int) % 26) = some (97 + (turn + 7 * j) % 26) := by
      rw [abc_at (by omega) (by omega)]
      congr 2
    have hI : ixN b.length (at_ : Int) = some at_ := ixN_nat (by omega)
    have hS : (b.map chS).set at_ (D.str ⟨#[97 + (turn + 7 * j) % 26]⟩) = (cs.set at_ (97 + (turn + 7 * j) % 26)).map chS := by
      rw [← hbs, List.map_set]
      rfl
    have hT : atI [D.str (tlz z 0), D.str (tlz z 1), D.str (tlz z 2)] ((j : Int) % 3) = some (.str (tlz z (j % 3))) := by
      have e : ((j : Int) % 3) = ((j % 3 : Nat) : Int) := by omega
      rw [e]
      refine atI_nat ?_
      have : j % 3 = 0 ∨ j % 3 = 1 ∨ j % 3 = 2 := by omega
      rcases this with h | h | h <;> rw [h] <;> rfl
    try simp only [dSeq, dAsg, dgName, dgTup, dgCons, dgNil, dgSub, dRet, dRetN, dIfS, dDrop, dNext, dBreak, dCont, dAug, dVar, dC, dBin, dTest, dChain, dTru, dNotT, dAndT, dOrT, dAndV, dOrV, dNotV, dIf, dNil, dCons, dTup, dLst, dNewDict, dNeg, dCB, dBM, dBM0, dCall, dYes,   dSl, dNoPart, dPart, qSl, dBack, qBack, dFor, dISeq, dIRng1, dIRng2, dIZip, dLc, dDc,   qAdd, qInt, qInt0, qSub, qMul, qDiv, qMod, qPow, qLt, qLe, qGt, qGe, qIs, qIsNot, qIx, qLen, qAbs, qMax, qMin, qSum, qAll, qAny, qInt_, qStr_, qList_, qTuple_, qDict_, qIsi, qSet, iAdd, iSub, iMul, iDiv, iMod,   mAppend, mExtend, mPop, truD, tyN, isTy, seqD, lstD, keyD, isNonD,   kit_ii, kit_bi, kit_si, kit_ti, kit_li, kit_di, kit_ni, kit_ib, kit_bb, kit_sb, kit_tb, kit_lb, kit_nb, kit_is, kit_ss, kit_ts, kit_ls, kit_ns, kit_it, kit_st, kit_tt, kit_lt, kit_nt, kit_il, kit_tl, kit_ll, kit_dl, kit_nl, kit_dd, kit_nd, kit_ld,   startD, wipeD, List.map_cons, List.map_nil, List.length_cons, List.length_nil, Nat.reduceAdd, Nat.reduceSub, List.replicate_succ, List.replicate_zero, List.cons_append, List.nil_append, List.getElem?_cons_zero, List.getElem?_cons_succ, List.set_cons_zero, List.set_cons_succ,   List.length_append, List.length_set, set_get, Option.map_some, List.set_set, atI_0, atI_1, atI_2, atI_3, atI_4, atI_5, atI_6, List.append_assoc, Nat.add_assoc, getK, getK0, getL, setK, setK0, setL, List.length_map, mJoin, mIndex, mCount, mGet, strsOf, intsOf, blsOf, Option.bind_some, intsD_map, strsD_map, blsD_map, Option.isSome_some, szl, Nat.reduceLeDiff, qEq_ii, qNe_ii, Bool.not_true, Bool.not_false, decT, decF, dDelT, dDisp, dPairs, dFld, dFldS, dMeth, dMake, dIEnum, dAugK, dNever, dListRev, dListRg1, dPar, dListZip, dForD, mSetd, dRaise, dCallX, dMethX, dMakeX, dTryOnly, dTryAs, wipeE, qIsE, clsVal, clsVals, PySem.W.kitAny, eq_self, true_and, hlt, htl, hA, hI, hS, hT, strsD_chS]
    have hj := join_name (z := z) (rfl : cs.set at_ (97 + (turn + 7 * j) % 26) = cs.set at_ (97 + (turn + 7 * j) % 26))
    have hlen8 := nameS_len (b := cs) (at_ := at_) (turn := turn) (z := z) (i := j) (by omega)
    have e0 : (Str.ofString "").length = 0 := by decide +kernel
    refine ⟨by unfold CMul; omega, by omega, abc_len, ?_, by omega, ?_, ?_, ?_⟩
    · rw [sum_ones, List.length_set, e0]
      omega
    · have := congrArg Str.length hj
      rw [TL.len_tl, TL.tl_append, List.length_append, ← TL.len_tl, ← TL.len_tl] at this
      omega
    · rw [List.length_range]
      omega
    · refine ih _ _ ⟨j + 1, n, cs.set at_ (97 + (turn + 7 * j) % 26), some (.int j), ?_, by omega, by simp, fun x => by simp, rfl, ?_⟩
      · congr 1
      · rw [List.range_succ, List.map_append, List.map_append, hj]
        rfl
  · rintro r M' ⟨j, n, b, v, hi, hjn, hbl, hbs, rfl, rfl⟩
    have hn : n = 0 := by
      have := congrArg List.length hi
      rw [rngD_length] at this
      simpa using this.symm
    subst hn
    refine ⟨trivial, ?_⟩
    try simp only [dSeq, dAsg, dgName, dgTup, dgCons, dgNil, dgSub, dRet, dRetN, dIfS, dDrop, dNext, dBreak, dCont, dAug, dVar, dC, dBin, dTest, dChain, dTru, dNotT, dAndT, dOrT, dAndV, dOrV, dNotV, dIf, dNil, dCons, dTup, dLst, dNewDict, dNeg, dCB, dBM, dBM0, dCall, dYes,   dSl, dNoPart, dPart, qSl, dBack, qBack, dFor, dISeq, dIRng1, dIRng2, dIZip, dLc, dDc,   qAdd, qInt, qInt0, qSub, qMul, qDiv, qMod, qPow, qLt, qLe, qGt, qGe, qIs, qIsNot, qIx, qLen, qAbs, qMax, qMin, qSum, qAll, qAny, qInt_, qStr_, qList_, qTuple_, qDict_, qIsi, qSet, iAdd, iSub, iMul, iDiv, iMod,   mAppend, mExtend, mPop, truD, tyN, isTy, seqD, lstD, keyD, isNonD,   kit_ii, kit_bi, kit_si, kit_ti, kit_li, kit_di, kit_ni, kit_ib, kit_bb, kit_sb, kit_tb, kit_lb, kit_nb, kit_is, kit_ss, kit_ts, kit_ls, kit_ns, kit_it, kit_st, kit_tt, kit_lt, kit_nt, kit_il, kit_tl, kit_ll, kit_dl, kit_nl, kit_dd, kit_nd, kit_ld,   startD, wipeD, List.map_cons, List.map_nil, List.length_cons, List.length_nil, Nat.reduceAdd, Nat.reduceSub, List.replicate_succ, List.replicate_zero, List.cons_append, List.nil_append, List.getElem?_cons_zero, List.getElem?_cons_succ, List.set_cons_zero, List.set_cons_succ,   List.length_append, List.length_set, set_get, Option.map_some, List.set_set, atI_0, atI_1, atI_2, atI_3, atI_4, atI_5, atI_6, List.append_assoc, Nat.add_assoc, getK, getK0, getL, setK, setK0, setL, List.length_map, mJoin, mIndex, mCount, mGet, strsOf, intsOf, blsOf, Option.bind_some, intsD_map, strsD_map, blsD_map, Option.isSome_some, szl, Nat.reduceLeDiff, qEq_ii, qNe_ii, Bool.not_true, Bool.not_false, decT, decF, dDelT, dDisp, dPairs, dFld, dFldS, dMeth, dMake, dIEnum, dAugK, dNever, dListRev, dListRg1, dPar, dListZip, dForD, mSetd, dRaise, dCallX, dMethX, dMakeX, dTryOnly, dTryAs, wipeE, qIsE, clsVal, clsVals, PySem.W.kitAny, eq_self, true_and]
    refine Done.list (okM_set hM (ho4.ok _)) (takeK (by simp)) (Nat.le_add_right _ _) (by rw [getK (by simp)]; rfl) ?_ ?_
    · rw [okDs_iff]
      intro d hd
      obtain ⟨x, _, rfl⟩ := List.mem_map.mp hd
      rfl
    · refine q o4 _ ho4 (by simp; omega) (fun n hn => ?_) (nodup_map List.nodup_range fun x hx y hy e => ?_)
      · obtain ⟨x, _, rfl⟩ := List.mem_map.mp hn
        exact name_good (by omega) hcs
      · exact name_inj hat (by have := List.mem_range.mp hx; omega) (by have := List.mem_range.mp hy; omega) e
end
def sp_signs : DSp := fun ds M Q _ => ∃ (l : Nat), ds = [.loc l] ∧ Dice M l ∧ ∀ (o : MO) (ss : List Sg), DiceO o → GoodSigns ss → Q (.loc M.length) (M.set l o ++ [.lst (ss.map Sg.d)])
section
variable {P : Program} {w : World} {K : PySem.W.Frag} {mg : Str → Option Value} {base : Heap}
theorem fn_signs (T : Top K mg) : DFn P w K mg base CX0 4 "_law_signs" ["_law_d"] sp_signs := by
  have F__law_off := fn_off (P := P) (w := w) (base := base) T
  have F__law_names := fn_names (P := P) (w := w) (base := base) T
  obtain ⟨fd, F⟩ := T.d__law_signs
  have sc := sc__law_signs
  refine DFn.ofD (k := 3) F T.g__law_signs (FunD.bindsN F fun _ _ _ _ _ _ us hl => match us, hl with | [_], _ => rfl) sc ?len ⟨_, fun cdv A outer s H E m0 hr => (
      (dss_cons (ds_set 1 sc.nd (de_bin dop_add (de_lst (da_cons de_int (da_cons de_int (da_cons de_int (da_cons de_int da_nil))))) (de_ix hr (de_lst (da_cons (de_lst da_nil) (da_cons (de_lst (da_cons de_int da_nil)) (da_cons (de_lst (da_cons de_int da_nil)) (da_cons (de_lst (da_cons de_int (da_cons de_int da_nil))) (da_cons (de_lst (da_cons de_int da_nil)) (da_cons (de_lst (da_cons de_int (da_cons de_int da_nil))) da_nil))))))) (de_call F__law_off (hr.mono (by omega)) pass0 (da_cons (de_var 0) (da_cons de_int da_nil))))))
      (dss_cons (ds_set 2 sc.nd (de_call F__law_off (hr.mono (by omega)) pass0 (da_cons (de_var 0) (da_cons (de_cb T.n_len dc_len b_len (da_cons (de_var 1) da_nil)) da_nil))))
      (dss_cons (ds_set 1 sc.nd (de_bin dop_add (de_slice (de_var 1) (do_some (de_var 2)) do_none) (de_slice (de_var 1) do_none (do_some (de_var 2)))))
      (dss_cons (ds_set 3 sc.nd (de_call F__law_names (hr.mono (by omega)) pass0 (da_cons (de_var 0) (da_cons (de_cb T.n_len dc_len b_len (da_cons (de_var 1) da_nil)) da_nil))))
      (dss_cons (ds_set 4 sc.nd (de_ix hr (de_lst (da_cons de_int (da_cons de_int (da_cons de_int da_nil)))) (de_call F__law_off (hr.mono (by omega)) pass0 (da_cons (de_var 0) (da_cons de_int da_nil)))))
      (dss_one (ds_ret (de_lc 5 (own := [("_law_k", 5)]) rfl sc.nd (di_rng1 T.n_range (da_cons (de_cb T.n_len dc_len b_len (da_cons (de_var 1) da_nil)) da_nil)) (show blkC ["_law_d", "_law_many", "_law_turn", "_law_names_here", "_law_most", "_law_k"] (defScope s__law_signs) _ [("_law_k", 5)] = true by decide +kernel) (by decide) (fun _ _ _ _ _ => pg_name (i := 5) sc.nd rfl (by first | exact Or.inl rfl | exact Or.inr rfl)) (fun _ _ _ _ _ => dts_nil) (fun _ _ _ _ _ => (de_tup (da_cons (de_ix hr (de_var 3) (de_var 5)) (da_cons (de_ix hr (de_var 1) (de_var 5)) (da_cons (de_bin dop_add de_int (de_call F__law_off (hr.mono (by omega)) pass0 (da_cons (de_var 0) (da_cons (de_var 4) da_nil)))) da_nil)))))))))))))), ?_⟩
  case len =>
    rintro ds M Q E ⟨l, rfl, _⟩
    rfl
  rintro ds M Qd Ed ⟨l, rfl, hd, q⟩ hM
  try simp only [dSeq, dAsg, dgName, dgTup, dgCons, dgNil, dgSub, dRet, dRetN, dIfS, dDrop, dNext, dBreak, dCont, dAug, dVar, dC, dBin, dTest, dChain, dTru, dNotT, dAndT, dOrT, dAndV, dOrV, dNotV, dIf, dNil, dCons, dTup, dLst, dNewDict, dNeg, dCB, dBM, dBM0, dCall, dYes,   dSl, dNoPart, dPart, qSl, dBack, qBack, dFor, dISeq, dIRng1, dIRng2, dIZip, dLc, dDc,   qAdd, qInt, qInt0, qSub, qMul, qDiv, qMod, qPow, qLt, qLe, qGt, qGe, qIs, qIsNot, qIx, qLen, qAbs, qMax, qMin, qSum, qAll, qAny, qInt_, qStr_, qList_, qTuple_, qDict_, qIsi, qSet, iAdd, iSub, iMul, iDiv, iMod,   mAppend, mExtend, mPop, truD, tyN, isTy, seqD, lstD, keyD, isNonD,   kit_ii, kit_bi, kit_si, kit_ti, kit_li, kit_di, kit_ni, kit_ib, kit_bb, kit_sb, kit_tb, kit_lb, kit_nb, kit_is, kit_ss, kit_ts, kit_ls, kit_ns, kit_it, kit_st, kit_tt, kit_lt, kit_nt, kit_il, kit_tl, kit_ll, kit_dl, kit_nl, kit_dd, kit_nd, kit_ld,   startD, wipeD, List.map_cons, List.map_nil, List.length_cons, List.length_nil, Nat.reduceAdd, Nat.reduceSub, List.replicate_succ, List.replicate_zero, List.cons_append, List.nil_append, List.getElem?_cons_zero, List.getElem?_cons_succ, List.set_cons_zero, List.set_cons_succ,   List.length_append, List.length_set, set_get, Option.map_some, List.set_set, atI_0, atI_1, atI_2, atI_3, atI_4, atI_5, atI_6, List.append_assoc, Nat.add_assoc, getK, getK0, getL, setK, setK0, setL, List.length_map, mJoin, mIndex, mCount, mGet, strsOf, intsOf, blsOf, Option.bind_some, intsD_map, strsD_map, blsD_map, Option.isSome_some, szl, Nat.reduceLeDiff, qEq_ii, qNe_ii, Bool.not_true, Bool.not_false, decT, decF, dDelT, dDisp, dPairs, dFld, dFldS, dMeth, dMake, dIEnum, dAugK, dNever, dListRev, dListRg1, dPar, dListZip, dForD, mSetd, dRaise, dCallX, dMethX, dMakeX, dTryOnly, dTryAs, wipeE, qIsE, clsVal, clsVals, PySem.W.kitAny, eq_self, true_and]
  have hlt := hd.lt
  refine use_offA hd (by omega) (by omega) fun r1 o1 h11 ho1 => ?_
  obtain ⟨ex, ti, hti, hex, he, ht⟩ : ∃ (ex : List Int) (ti : Nat), ex.length ≤ 2 ∧ (∀ a ∈ ex, 0 ≤ a ∧ a ≤ 4) ∧ atI [D.loc (List.length M + 1), D.loc (List.length M + 2), D.loc (List.length M + 3), D.loc (List.length M + 4), D.loc (List.length M + 5), D.loc (List.length M + 6)] (r1 : Int) = some (.loc (List.length M + (ti + 1))) ∧
      ∀ T, [MO.lst [], MO.lst [.int 0], MO.lst [.int 1], MO.lst [.int 0, .int 2], MO.lst [.int 3], MO.lst [.int 4, .int 1], T][ti]? = some (.lst (ex.map D.int)) := by
    have : r1 = 0 ∨ r1 = 1 ∨ r1 = 2 ∨ r1 = 3 ∨ r1 = 4 ∨ r1 = 5 := by omega
    rcases this with rfl | rfl | rfl | rfl | rfl | rfl
    · exact ⟨[], 0, by decide, by decide, rfl, fun _ => rfl⟩
    · exact ⟨[0], 1, by decide, by decide, rfl, fun _ => rfl⟩
    · exact ⟨[1], 2, by decide, by decide, rfl, fun _ => rfl⟩
    · exact ⟨[0, 2], 3, by decide, by decide, rfl, fun _ => rfl⟩
    · exact ⟨[3], 4, by decide, by decide, rfl, fun _ => rfl⟩
    · exact ⟨[4, 1], 5, by decide, by decide, rfl, fun _ => rfl⟩
  try simp only [dSeq, dAsg, dgName, dgTup, dgCons, dgNil, dgSub, dRet, dRetN, dIfS, dDrop, dNext, dBreak, dCont, dAug, dVar, dC, dBin, dTest, dChain, dTru, dNotT, dAndT, dOrT, dAndV, dOrV, dNotV, dIf, dNil, dCons, dTup, dLst, dNewDict, dNeg, dCB, dBM, dBM0, dCall, dYes,   dSl, dNoPart, dPart, qSl, dBack, qBack, dFor, dISeq, dIRng1, dIRng2, dIZip, dLc, dDc,   qAdd, qInt, qInt0, qSub, qMul, qDiv, qMod, qPow, qLt, qLe, qGt, qGe, qIs, qIsNot, qIx, qLen, qAbs, qMax, qMin, qSum, qAll, qAny, qInt_, qStr_, qList_, qTuple_, qDict_, qIsi, qSet, iAdd, iSub, iMul, iDiv, iMod,   mAppend, mExtend, mPop, truD, tyN, isTy, seqD, lstD, keyD, isNonD,   kit_ii, kit_bi, kit_si, kit_ti, kit_li, kit_di, kit_ni, kit_ib, kit_bb, kit_sb, kit_tb, kit_lb, kit_nb, kit_is, kit_ss, kit_ts, kit_ls, kit_ns, kit_it, kit_st, kit_tt, kit_lt, kit_nt, kit_il, kit_tl, kit_ll, kit_dl, kit_nl, kit_dd, kit_nd, kit_ld,   startD, wipeD, List.map_cons, List.map_nil, List.length_cons, List.length_nil, Nat.reduceAdd, Nat.reduceSub, List.replicate_succ, List.replicate_zero, List.cons_append, List.nil_append, List.getElem?_cons_zero, List.getElem?_cons_succ, List.set_cons_zero, List.set_cons_succ,   List.length_append, List.length_set, set_get, Option.map_some, List.set_set, atI_0, atI_1, atI_2, atI_3, atI_4, atI_5, atI_6, List.append_assoc, Nat.add_assoc, getK, getK0, getL, setK, setK0, setL, List.length_map, mJoin, mIndex, mCount, mGet, strsOf, intsOf, blsOf, Option.bind_some, intsD_map, strsD_map, blsD_map, Option.isSome_some, szl, Nat.reduceLeDiff, qEq_ii, qNe_ii, Bool.not_true, Bool.not_false, decT, decF, dDelT, dDisp, dPairs, dFld, dFldS, dMeth, dMake, dIEnum, dAugK, dNever, dListRev, dListRg1, dPar, dListZip, dForD, mSetd, dRaise, dCallX, dMethX, dMakeX, dTryOnly, dTryAs, wipeE, qIsE, clsVal, clsVals, PySem.W.kitAny, eq_self, true_and, hlt, he, ht]
  refine ⟨by omega, ?_⟩
  refine use_off hlt ho1 (by omega) (by omega) fun turn o2 h2 ho2 => ?_
  try simp only [dSeq, dAsg, dgName, dgTup, dgCons, dgNil, dgSub, dRet, dRetN, dIfS, dDrop, dNext, dBreak, dCont, dAug, dVar, dC, dBin, dTest, dChain, dTru, dNotT, dAndT, dOrT, dAndV, dOrV, dNotV, dIf, dNil, dCons, dTup, dLst, dNewDict, dNeg, dCB, dBM, dBM0, dCall, dYes,   dSl, dNoPart, dPart, qSl, dBack, qBack, dFor, dISeq, dIRng1, dIRng2, dIZip, dLc, dDc,   qAdd, qInt, qInt0, qSub, qMul, qDiv, qMod, qPow, qLt, qLe, qGt, qGe, qIs, qIsNot, qIx, qLen, qAbs, qMax, qMin, qSum, qAll, qAny, qInt_, qStr_, qList_, qTuple_, qDict_, qIsi, qSet, iAdd, iSub, iMul, iDiv, iMod,   mAppend, mExtend, mPop, truD, tyN, isTy, seqD, lstD, keyD, isNonD,   kit_ii, kit_bi, kit_si, kit_ti, kit_li, kit_di, kit_ni, kit_ib, kit_bb, kit_sb, kit_tb, kit_lb, kit_nb, kit_is, kit_ss, kit_ts, kit_ls, kit_ns, kit_it, kit_st, kit_tt, kit_lt, kit_nt, kit_il, kit_tl, kit_ll, kit_dl, kit_nl, kit_dd, kit_nd, kit_ld,   startD, wipeD, List.map_cons, List.map_nil, List.length_cons, List.length_nil, Nat.reduceAdd, Nat.reduceSub, List.replicate_succ, List.replicate_zero, List.cons_append, List.nil_append, List.getElem?_cons_zero, List.getElem?_cons_succ, List.set_cons_zero, List.set_cons_succ,   List.length_append, List.length_set, set_get, Option.map_some, List.set_set, atI_0, atI_1, atI_2, atI_3, atI_4, atI_5, atI_6, List.append_assoc, Nat.add_assoc, getK, getK0, getL, setK, setK0, setL, List.length_map, mJoin, mIndex, mCount, mGet, strsOf, intsOf, blsOf, Option.bind_some, intsD_map, strsD_map, blsD_map, Option.isSome_some, szl, Nat.reduceLeDiff, qEq_ii, qNe_ii, Bool.not_true, Bool.not_false, decT, decF, dDelT, dDisp, dPairs, dFld, dFldS, dMeth, dMake, dIEnum, dAugK, dNever, dListRev, dListRg1, dPar, dListZip, dForD, mSetd, dRaise, dCallX, dMethX, dMakeX, dTryOnly, dTryAs, wipeE, qIsE, clsVal, clsVals, PySem.W.kitAny, eq_self, true_and, hlt]
  obtain ⟨ar, ec, hmem, hal⟩ := cut_turn (ar := 0 :: 0 :: 1 :: 2 :: ex) (t := turn) (by simp; omega)
  have hal' : 4 ≤ ar.length ∧ ar.length ≤ 6 := by rw [hal]; simp; omega
  have el := congrArg List.length ec
  rw [List.length_append, List.length_map] at el
  simp only [List.map_cons, List.length_cons] at ec el
  rw [el, ec]
  refine ⟨by omega, ⟨l, ar.length, rfl, by omega, ⟨o2, by rw [getL (by simpa using hlt)]; simp [hlt], ho2⟩, fun o3 ns ho3 hnl hgood hnd => ?_⟩⟩
  try simp only [dSeq, dAsg, dgName, dgTup, dgCons, dgNil, dgSub, dRet, dRetN, dIfS, dDrop, dNext, dBreak, dCont, dAug, dVar, dC, dBin, dTest, dChain, dTru, dNotT, dAndT, dOrT, dAndV, dOrV, dNotV, dIf, dNil, dCons, dTup, dLst, dNewDict, dNeg, dCB, dBM, dBM0, dCall, dYes,   dSl, dNoPart, dPart, qSl, dBack, qBack, dFor, dISeq, dIRng1, dIRng2, dIZip, dLc, dDc,   qAdd, qInt, qInt0, qSub, qMul, qDiv, qMod, qPow, qLt, qLe, qGt, qGe, qIs, qIsNot, qIx, qLen, qAbs, qMax, qMin, qSum, qAll, qAny, qInt_, qStr_, qList_, qTuple_, qDict_, qIsi, qSet, iAdd, iSub, iMul, iDiv, iMod,   mAppend, mExtend, mPop, truD, tyN, isTy, seqD, lstD, keyD, isNonD,   kit_ii, kit_bi, kit_si, kit_ti, kit_li, kit_di, kit_ni, kit_ib, kit_bb, kit_sb, kit_tb, kit_lb, kit_nb, kit_is, kit_ss, kit_ts, kit_ls, kit_ns, kit_it, kit_st, kit_tt, kit_lt, kit_nt, kit_il, kit_tl, kit_ll, kit_dl, kit_nl, kit_dd, kit_nd, kit_ld,   startD, wipeD, List.map_cons, List.map_nil, List.length_cons, List.length_nil, Nat.reduceAdd, Nat.reduceSub, List.replicate_succ, List.replicate_zero, List.cons_append, List.nil_append, List.getElem?_cons_zero, List.getElem?_cons_succ, List.set_cons_zero, List.set_cons_succ,   List.length_append, List.length_set, set_get, Option.map_some, List.set_set, atI_0, atI_1, atI_2, atI_3, atI_4, atI_5, atI_6, List.append_assoc, Nat.add_assoc, getK, getK0, getL, setK, setK0, setL, List.length_map, mJoin, mIndex, mCount, mGet, strsOf, intsOf, blsOf, Option.bind_some, intsD_map, strsD_map, blsD_map, Option.isSome_some, szl, Nat.reduceLeDiff, qEq_ii, qNe_ii, Bool.not_true, Bool.not_false, decT, decF, dDelT, dDisp, dPairs, dFld, dFldS, dMeth, dMake, dIEnum, dAugK, dNever, dListRev, dListRg1, dPar, dListZip, dForD, mSetd, dRaise, dCallX, dMethX, dMakeX, dTryOnly, dTryAs, wipeE, qIsE, clsVal, clsVals, PySem.W.kitAny, eq_self, true_and, hlt]
  refine use_off hlt ho3 (by omega) (by omega) fun r4 o4 h4 ho4 => ?_
  obtain ⟨mo, hmo, he4⟩ : ∃ mo : Int, 1 ≤ mo ∧ mo ≤ 9 ∧ atI [D.int 1, D.int 3, D.int 9] (r4 : Int) = some (.int mo) := by
    have : r4 = 0 ∨ r4 = 1 ∨ r4 = 2 := by omega
    rcases this with rfl | rfl | rfl
    · exact ⟨1, by decide, by decide, rfl⟩
    · exact ⟨3, by decide, by decide, rfl⟩
    · exact ⟨9, by decide, by decide, rfl⟩
  try simp only [dSeq, dAsg, dgName, dgTup, dgCons, dgNil, dgSub, dRet, dRetN, dIfS, dDrop, dNext, dBreak, dCont, dAug, dVar, dC, dBin, dTest, dChain, dTru, dNotT, dAndT, dOrT, dAndV, dOrV, dNotV, dIf, dNil, dCons, dTup, dLst, dNewDict, dNeg, dCB, dBM, dBM0, dCall, dYes,   dSl, dNoPart, dPart, qSl, dBack, qBack, dFor, dISeq, dIRng1, dIRng2, dIZip, dLc, dDc,   qAdd, qInt, qInt0, qSub, qMul, qDiv, qMod, qPow, qLt, qLe, qGt, qGe, qIs, qIsNot, qIx, qLen, qAbs, qMax, qMin, qSum, qAll, qAny, qInt_, qStr_, qList_, qTuple_, qDict_, qIsi, qSet, iAdd, iSub, iMul, iDiv, iMod,   mAppend, mExtend, mPop, truD, tyN, isTy, seqD, lstD, keyD, isNonD,   kit_ii, kit_bi, kit_si, kit_ti, kit_li, kit_di, kit_ni, kit_ib, kit_bb, kit_sb, kit_tb, kit_lb, kit_nb, kit_is, kit_ss, kit_ts, kit_ls, kit_ns, kit_it, kit_st, kit_tt, kit_lt, kit_nt, kit_il, kit_tl, kit_ll, kit_dl, kit_nl, kit_dd, kit_nd, kit_ld,   startD, wipeD, List.map_cons, List.map_nil, List.length_cons, List.length_nil, Nat.reduceAdd, Nat.reduceSub, List.replicate_succ, List.replicate_zero, List.cons_append, List.nil_append, List.getElem?_cons_zero, List.getElem?_cons_succ, List.set_cons_zero, List.set_cons_succ,   List.length_append, List.length_set, set_get, Option.map_some, List.set_set, atI_0, atI_1, atI_2, atI_3, atI_4, atI_5, atI_6, List.append_assoc, Nat.add_assoc, getK, getK0, getL, setK, setK0, setL, List.length_map, mJoin, mIndex, mCount, mGet, strsOf, intsOf, blsOf, Option.bind_some, intsD_map, strsD_map, blsD_map, Option.isSome_some, szl, Nat.reduceLeDiff, qEq_ii, qNe_ii, Bool.not_true, Bool.not_false, decT, decF, dDelT, dDisp, dPairs, dFld, dFldS, dMeth, dMake, dIEnum, dAugK, dNever, dListRev, dListRg1, dPar, dListZip, dForD, mSetd, dRaise, dCallX, dMethX, dMakeX, dTryOnly, dTryAs, wipeE, qIsE, clsVal, clsVals, PySem.W.kitAny, eq_self, true_and, hlt, he4]
  generalize hG : [MO.lst [D.int 0, D.int 0, D.int 1, D.int 2], _, _, _, _, _, _, _, _, _, _, _, _, _] = G
  have g11 : G[11]? = some (.lst (ar.map D.int)) := by rw [← hG]; rfl
  have g12 : G[12]? = some (.lst (ns.map D.str)) := by rw [← hG]; rfl
  have gl : G.length = 14 := by rw [← hG]; rfl
  clear hG
  refine ⟨⟨by omega, by omega⟩, ?_⟩
  refine lcGo_ind (fun items M' acc => ∃ (o : MO) (ss : List Sg) (j n : Nat), DiceO o ∧ items = rngD j n ∧ j + n = ar.length ∧ M' = M.set l o ++ G ∧ acc = ss.map Sg.d ∧
      ss.map Sg.nm = ns.take j ∧ (ss.map fun s => (s.ar : Int)) = ar.take j ∧ ∀ s ∈ ss, 1 ≤ s.wt ∧ s.wt ≤ 9) ?_ ?_ _ _ _ ⟨o4, [], 0, ar.length, ho4, by simp, by omega, rfl, rfl, rfl, rfl, fun s h => by cases h⟩
  · rintro x rest M' acc ⟨o, ss, j, n, ho, hi, hjn, rfl, rfl, hn, ha, hw⟩ ih
    refine ⟨trivial, ?_⟩
    cases n with
    | zero => rw [rngD_zero] at hi; cases hi
    | succ n =>
    rw [rngD_succ] at hi
    injection hi with hx hr
    subst hx hr
    obtain ⟨nm, hnm⟩ : ∃ nm, ns[j]? = some nm := ⟨_, List.getElem?_eq_getElem (by omega)⟩
    obtain ⟨a, haj⟩ : ∃ a, ar[j]? = some a := ⟨_, List.getElem?_eq_getElem (by omega)⟩
    have f1 : atI (ns.map D.str) (j : Int) = some (.str nm) := atI_nat (by rw [List.getElem?_map, hnm]; rfl)
    have f2 : atI (ar.map D.int) (j : Int) = some (.int a) := atI_nat (by rw [List.getElem?_map, haj]; rfl)
    have hma : a ∈ ar := List.mem_of_getElem? haj
    have hab : 0 ≤ a ∧ a ≤ 4 := by
      rw [hmem] at hma
      simp only [List.mem_cons] at hma
      rcases hma with rfl | rfl | rfl | rfl | h
      · decide
      · decide
      · decide
      · decide
      · exact hex a h
    try simp only [dSeq, dAsg, dgName, dgTup, dgCons, dgNil, dgSub, dRet, dRetN, dIfS, dDrop, dNext, dBreak, dCont, dAug, dVar, dC, dBin, dTest, dChain, dTru, dNotT, dAndT, dOrT, dAndV, dOrV, dNotV, dIf, dNil, dCons, dTup, dLst, dNewDict, dNeg, dCB, dBM, dBM0, dCall, dYes,   dSl, dNoPart, dPart, qSl, dBack, qBack, dFor, dISeq, dIRng1, dIRng2, dIZip, dLc, dDc,   qAdd, qInt, qInt0, qSub, qMul, qDiv, qMod, qPow, qLt, qLe, qGt, qGe, qIs, qIsNot, qIx, qLen, qAbs, qMax, qMin, qSum, qAll, qAny, qInt_, qStr_, qList_, qTuple_, qDict_, qIsi, qSet, iAdd, iSub, iMul, iDiv, iMod,   mAppend, mExtend, mPop, truD, tyN, isTy, seqD, lstD, keyD, isNonD,   kit_ii, kit_bi, kit_si, kit_ti, kit_li, kit_di, kit_ni, kit_ib, kit_bb, kit_sb, kit_tb, kit_lb, kit_nb, kit_is, kit_ss, kit_ts, kit_ls, kit_ns, kit_it, kit_st, kit_tt, kit_lt, kit_nt, kit_il, kit_tl, kit_ll, kit_dl, kit_nl, kit_dd, kit_nd, kit_ld,   startD, wipeD, List.map_cons, List.map_nil, List.length_cons, List.length_nil, Nat.reduceAdd, Nat.reduceSub, List.replicate_succ, List.replicate_zero, List.cons_append, List.nil_append, List.getElem?_cons_zero, List.getElem?_cons_succ, List.set_cons_zero, List.set_cons_succ,   List.length_append, List.length_set, set_get, Option.map_some, List.set_set, atI_0, atI_1, atI_2, atI_3, atI_4, atI_5, atI_6, List.append_assoc, Nat.add_assoc, getK, getK0, getL, setK, setK0, setL, List.length_map, mJoin, mIndex, mCount, mGet, strsOf, intsOf, blsOf, Option.bind_some, intsD_map, strsD_map, blsD_map, Option.isSome_some, szl, Nat.reduceLeDiff, qEq_ii, qNe_ii, Bool.not_true, Bool.not_false, decT, decF, dDelT, dDisp, dPairs, dFld, dFldS, dMeth, dMake, dIEnum, dAugK, dNever, dListRev, dListRg1, dPar, dListZip, dForD, mSetd, dRaise, dCallX, dMethX, dMakeX, dTryOnly, dTryAs, wipeE, qIsE, clsVal, clsVals, PySem.W.kitAny, eq_self, true_and, hlt, g11, g12, f1, f2]
    refine use_off hlt ho (by omega) (by omega) fun wt o5 h5 ho5 => ?_
    try simp only [dSeq, dAsg, dgName, dgTup, dgCons, dgNil, dgSub, dRet, dRetN, dIfS, dDrop, dNext, dBreak, dCont, dAug, dVar, dC, dBin, dTest, dChain, dTru, dNotT, dAndT, dOrT, dAndV, dOrV, dNotV, dIf, dNil, dCons, dTup, dLst, dNewDict, dNeg, dCB, dBM, dBM0, dCall, dYes,   dSl, dNoPart, dPart, qSl, dBack, qBack, dFor, dISeq, dIRng1, dIRng2, dIZip, dLc, dDc,   qAdd, qInt, qInt0, qSub, qMul, qDiv, qMod, qPow, qLt, qLe, qGt, qGe, qIs, qIsNot, qIx, qLen, qAbs, qMax, qMin, qSum, qAll, qAny, qInt_, qStr_, qList_, qTuple_, qDict_, qIsi, qSet, iAdd, iSub, iMul, iDiv, iMod,   mAppend, mExtend, mPop, truD, tyN, isTy, seqD, lstD, keyD, isNonD,   kit_ii, kit_bi, kit_si, kit_ti, kit_li, kit_di, kit_ni, kit_ib, kit_bb, kit_sb, kit_tb, kit_lb, kit_nb, kit_is, kit_ss, kit_ts, kit_ls, kit_ns, kit_it, kit_st, kit_tt, kit_lt, kit_nt, kit_il, kit_tl, kit_ll, kit_dl, kit_nl, kit_dd, kit_nd, kit_ld,   startD, wipeD, List.map_cons, List.map_nil, List.length_cons, List.length_nil, Nat.reduceAdd, Nat.reduceSub, List.replicate_succ, List.replicate_zero, List.cons_append, List.nil_append, List.getElem?_cons_zero, List.getElem?_cons_succ, List.set_cons_zero, List.set_cons_succ,   List.length_append, List.length_set, set_get, Option.map_some, List.set_set, atI_0, atI_1, atI_2, atI_3, atI_4, atI_5, atI_6, List.append_assoc, Nat.add_assoc, getK, getK0, getL, setK, setK0, setL, List.length_map, mJoin, mIndex, mCount, mGet, strsOf, intsOf, blsOf, Option.bind_some, intsD_map, strsD_map, blsD_map, Option.isSome_some, szl, Nat.reduceLeDiff, qEq_ii, qNe_ii, Bool.not_true, Bool.not_false, decT, decF, dDelT, dDisp, dPairs, dFld, dFldS, dMeth, dMake, dIEnum, dAugK, dNever, dListRev, dListRg1, dPar, dListZip, dForD, mSetd, dRaise, dCallX, dMethX, dMakeX, dTryOnly, dTryAs, wipeE, qIsE, clsVal, clsVals, PySem.W.kitAny, eq_self, true_and, hlt]
    have hjs : ss.length = j := by
      have := congrArg List.length hn
      rw [List.length_map, List.length_take] at this
      omega
    refine ⟨by omega, ih _ _ ⟨o5, ss ++ [⟨nm, a.toNat, 1 + wt⟩], j + 1, n, ho5, by rw [Int.natCast_add]; rfl, by omega, rfl, ?_, ?_, ?_, fun s hs => ?_⟩⟩
    · rw [List.map_append]
      congr 1
      show _ = [D.tup [.str nm, .int ((a.toNat : Nat) : Int), .int ((1 + wt : Nat) : Int)]]
      rw [show ((a.toNat : Nat) : Int) = a by omega, show ((1 + wt : Nat) : Int) = 1 + (wt : Int) by omega]
    · rw [List.map_append, hn, List.take_succ, hnm]
      rfl
    · rw [List.map_append, ha, List.take_succ, haj]
      show _ ++ [((a.toNat : Nat) : Int)] = _ ++ [a]
      rw [show ((a.toNat : Nat) : Int) = a by omega]
    · rcases List.mem_append.mp hs with h | h
      · exact hw s h
      · have : s = ⟨nm, a.toNat, 1 + wt⟩ := by simpa using h
        subst this
        show 1 ≤ 1 + wt ∧ 1 + wt ≤ 9
        omega
  · rintro M' acc ⟨o, ss, j, n, ho, hi, hjn, rfl, rfl, hn, ha, hw⟩
    have hn0 : n = 0 := by
      have := congrArg List.length hi
      rw [rngD_length] at this
      simpa using this.symm
    subst hn0
    rw [List.take_of_length_le (by omega)] at hn ha
    refine ⟨trivial, ?_⟩
    have hss : ss.length = ar.length := by have := congrArg List.length ha; simpa using this
    refine Done.list (okM_set hM (ho.ok _)) (by rw [List.append_assoc]; exact takeK (by simp)) (by simp) (by rw [getK0 rfl]; rfl) ?_ ?_
    · rw [okDs_iff]
      intro d hd
      obtain ⟨x, _, rfl⟩ := List.mem_map.mp hd
      rfl
    · have hw' : ∀ s ∈ ss, s.ar ≤ 4 := fun s hs => by
        have : (s.ar : Int) ∈ ar := by rw [← ha]; exact List.mem_map.mpr ⟨s, hs, rfl⟩
        rw [hmem] at this
        simp only [List.mem_cons] at this
        rcases this with h | h | h | h | h
        · omega
        · omega
        · omega
        · omega
        · have := hex _ h; omega
      have hhas : ∀ k : Nat, k ≤ 2 → ∃ s ∈ ss, s.ar = k := fun k hk => by
        have : (k : Int) ∈ ss.map fun s => (s.ar : Int) := by
          rw [ha, hmem]
          have : k = 0 ∨ k = 1 ∨ k = 2 := by omega
          rcases this with rfl | rfl | rfl <;> simp
        obtain ⟨s, hs, e⟩ := List.mem_map.mp this
        exact ⟨s, hs, by omega⟩
      exact q o ss ho ⟨fun s hs => hgood _ (by rw [← hn]; exact List.mem_map.mpr ⟨s, hs, rfl⟩), by rw [hn]; exact hnd, hw', hw, by omega, hhas⟩
end
section
variable {P : Program} {w : World} {K : PySem.W.Frag} {mg : Str → Option Value} {base : Heap}
def sp_term (n : Nat) : DSp := fun ds M Q _ => ∃ (l a b k : Nat) (ss : List Sg) (vs : List Int), ds = [.loc l, .loc a, .int k, .loc b] ∧ k < n ∧ n ≤ 4 ∧ Dice M l ∧ l ≠ a ∧ l ≠ b ∧ M[a]? = some (.lst (ss.map Sg.d)) ∧ M[b]? = some (.lst (vs.map D.int)) ∧ GoodSigns ss ∧ vs.length ≤ 4 ∧
  ∀ (o : MO) (t : Tm), DiceO o → Over ss vs t → t.deep ≤ k + 1 → (∀ A, (∀ g ∈ ss, g.ar ≤ A) → t.size ≤ bigOf A k) → Q t.d (M.set l o)
theorem fn_term (T : Top K mg) (n : Nat) : DFn P w K mg base CX0 (3 + n) "_law_term" ["_law_d", "_law_signs_here", "_law_deep", "_law_free_here"] (sp_term n) := by
  induction n with
  | zero =>
    obtain ⟨fd, F⟩ := T.d__law_term
    refine (DFn.nothing F T.g__law_term (FunD.bindsN F fun _ _ _ _ _ _ us hl => match us, hl with | [_, _, _, _], _ => rfl)).imp ?_
    rintro ds M Q E ⟨l, a, b, k, ss, vs, rfl, h, _⟩
    omega
  | succ n ih =>
  have F__law_off := fn_off (P := P) (w := w) (base := base) T
  have F__law_term := ih
  obtain ⟨fd, F⟩ := T.d__law_term
  have sc := sc__law_term
  refine DFn.ofD (k := (3 + n)) F T.g__law_term (FunD.bindsN F fun _ _ _ _ _ _ us hl => match us, hl with | [_, _, _, _], _ => rfl) sc ?len ⟨_, fun cdv A outer s H E m0 hr => (
      (dss_cons (ds_if (dt_w (dw_and (dt_cmp (dop_ne hr) (de_var 3) (de_lst da_nil)) (dw_and1 (dt_cmp (dop_eq hr) (de_call F__law_off (hr.mono (by omega)) pass0 (da_cons (de_var 0) (da_cons de_int da_nil))) de_int)))) (dss_one (ds_ret (de_ix hr (de_var 3) (de_call F__law_off (hr.mono (by omega)) pass0 (da_cons (de_var 0) (da_cons (de_cb T.n_len dc_len b_len (da_cons (de_var 3) da_nil)) da_nil)))))) dss_nil)
      (dss_cons (ds_set 4 sc.nd (de_var 1))
      (dss_cons (ds_if (dt_cmp (dop_eq hr) (de_var 2) de_int) (dss_one (ds_setLc 4 5 (own := [("_law_sign", 5)]) rfl sc.nd (di_seq (de_var 1)) (show blkC ["_law_d", "_law_signs_here", "_law_deep", "_law_free_here", "_law_some", "_law_sign", "_law_k"] (defScope s__law_term) _ [("_law_sign", 5)] = true by decide +kernel) (by decide) (sw_true rfl rfl rfl (by decide +kernel)) (fun _ _ _ _ _ => pg_name (i := 5) sc.nd rfl (by first | exact Or.inl rfl | exact Or.inr rfl)) (fun _ _ _ _ _ => (dts_one (dt_cmp (dop_eq hr) (de_ix hr (de_var 5) de_int) de_int))) (fun _ _ _ _ _ => (de_var 5)))) dss_nil)
      (dss_cons (ds_set 5 sc.nd (de_ix hr (de_var 4) (de_call F__law_off (hr.mono (by omega)) pass0 (da_cons (de_var 0) (da_cons (de_cb T.n_len dc_len b_len (da_cons (de_var 4) da_nil)) da_nil)))))
      (dss_one (ds_ret (de_bin dop_add (de_tup (da_cons (de_ix hr (de_var 5) de_int) da_nil)) (de_ct T.n_tuple dc_tuple b_tuple (da_cons (de_lc 6 (own := [("_law_k", 6)]) rfl sc.nd (di_rng1 T.n_range (da_cons (de_ix hr (de_var 5) de_int) da_nil)) (show blkC ["_law_d", "_law_signs_here", "_law_deep", "_law_free_here", "_law_some", "_law_sign", "_law_k"] (defScope s__law_term) _ [("_law_k", 6)] = true by decide +kernel) (by decide) (fun _ _ _ _ _ => pg_name (i := 6) sc.nd rfl (by first | exact Or.inl rfl | exact Or.inr rfl)) (fun _ _ _ _ _ => dts_nil) (fun _ _ _ _ _ => (de_call F__law_term (hr.mono (by omega)) pass0 (da_cons (de_var 0) (da_cons (de_var 1) (da_cons (de_bin dop_sub (de_var 2) de_int) (da_cons (de_var 3) da_nil))))))) da_nil)))))))))), ?_⟩
  case len =>
    rintro ds M Q E ⟨l, a, b, k, ss, vs, rfl, _⟩
    rfl
  rintro ds M Qd Ed ⟨l, a, b, k, ss, vs, rfl, hk, hn, hd, hla, hlb, ha, hb, hss, hvs, q⟩ hM
  have hlt := hd.lt
  have ha' := (List.getElem?_eq_some_iff.mp ha).1
  have hb' := (List.getElem?_eq_some_iff.mp hb).1
  have hget : ∀ (o : MO) (G : Mem), (M.set l o ++ G)[a]? = some (.lst (ss.map Sg.d)) ∧ (M.set l o ++ G)[b]? = some (.lst (vs.map D.int)) := fun o G => by
    rw [getL (by simpa using ha'), getL (by simpa using hb'), List.getElem?_set_ne hla, List.getElem?_set_ne hlb]
    exact ⟨ha, hb⟩
  have hself : ∃ o, DiceO o ∧ M.set l o = M := by obtain ⟨o, h1, _, h2⟩ := hd.self; exact ⟨o, h1, h2⟩
  have hsub0 : ∀ s ∈ ss, s ∈ ss ∧ (0 < k → k = 0 → s.ar = 0) := fun s h => ⟨h, fun h1 h2 => by omega⟩
  refine cut1 (W := fun r' M' => ∃ o G, DiceO o ∧ r' = [some (.loc l), some (.loc a), some (.int k), some (.loc b), none, none, none] ∧ M' = M.set l o ++ G) ?_ fun R hR => ?_
  · rintro r' M' ⟨o, G, ho, rfl, rfl⟩
    refine cut2 (W := fun r' M' => ∃ o G c sub, DiceO o ∧ r' = [some (.loc l), some (.loc a), some (.int k), some (.loc b), some (.loc c), none, none] ∧ M' = M.set l o ++ G ∧ (∀ o', (M.set l o' ++ G)[c]? = some (.lst (sub.map Sg.d))) ∧
      (∀ s ∈ sub, s ∈ ss ∧ (k = 0 → s.ar = 0)) ∧ sub.length ≤ 6 ∧ sub ≠ []) ?_ fun R hR => ?_
    · rintro r' M' ⟨o, G, c, sub, ho, rfl, rfl, hc, hsub, hsl, hsn⟩
      have hs0 : 0 < sub.length := List.length_pos_iff.mpr hsn
      try simp only [dSeq, dAsg, dgName, dgTup, dgCons, dgNil, dgSub, dRet, dRetN, dIfS, dDrop, dNext, dBreak, dCont, dAug, dVar, dC, dBin, dTest, dChain, dTru, dNotT, dAndT, dOrT, dAndV, dOrV, dNotV, dIf, dNil, dCons, dTup, dLst, dNewDict, dNeg, dCB, dBM, dBM0, dCall, dYes,   dSl, dNoPart, dPart, qSl, dBack, qBack, dFor, dISeq, dIRng1, dIRng2, dIZip, dLc, dDc,   qAdd, qInt, qInt0, qSub, qMul, qDiv, qMod, qPow, qLt, qLe, qGt, qGe, qIs, qIsNot, qIx, qLen, qAbs, qMax, qMin, qSum, qAll, qAny, qInt_, qStr_, qList_, qTuple_, qDict_, qIsi, qSet, iAdd, iSub, iMul, iDiv, iMod,   mAppend, mExtend, mPop, truD, tyN, isTy, seqD, lstD, keyD, isNonD,   kit_ii, kit_bi, kit_si, kit_ti, kit_li, kit_di, kit_ni, kit_ib, kit_bb, kit_sb, kit_tb, kit_lb, kit_nb, kit_is, kit_ss, kit_ts, kit_ls, kit_ns, kit_it, kit_st, kit_tt, kit_lt, kit_nt, kit_il, kit_tl, kit_ll, kit_dl, kit_nl, kit_dd, kit_nd, kit_ld,   startD, wipeD, List.map_cons, List.map_nil, List.length_cons, List.length_nil, Nat.reduceAdd, Nat.reduceSub, List.replicate_succ, List.replicate_zero, List.cons_append, List.nil_append, List.getElem?_cons_zero, List.getElem?_cons_succ, List.set_cons_zero, List.set_cons_succ,   List.length_append, List.length_set, set_get, Option.map_some, List.set_set, atI_0, atI_1, atI_2, atI_3, atI_4, atI_5, atI_6, List.append_assoc, Nat.add_assoc, getK, getK0, getL, setK, setK0, setL, List.length_map, mJoin, mIndex, mCount, mGet, strsOf, intsOf, blsOf, Option.bind_some, intsD_map, strsD_map, blsD_map, Option.isSome_some, szl, Nat.reduceLeDiff, qEq_ii, qNe_ii, Bool.not_true, Bool.not_false, decT, decF, dDelT, dDisp, dPairs, dFld, dFldS, dMeth, dMake, dIEnum, dAugK, dNever, dListRev, dListRg1, dPar, dListZip, dForD, mSetd, dRaise, dCallX, dMethX, dMakeX, dTryOnly, dTryAs, wipeE, qIsE, clsVal, clsVals, PySem.W.kitAny, eq_self, true_and, hc]
      refine use_off hlt ho (by omega) (by omega) fun r o1 h1 ho1 => ?_
      obtain ⟨s, hs⟩ : ∃ s, sub[r]? = some s := ⟨_, List.getElem?_eq_getElem (by omega)⟩
      have hms := hsub s (List.mem_of_getElem? hs)
      have har := hss.ar s hms.1
      have f1 : atI (sub.map Sg.d) (r : Int) = some (.tup [.str s.nm, .int s.ar, .int s.wt]) := atI_nat (by rw [List.getElem?_map, hs]; rfl)
      try simp only [dSeq, dAsg, dgName, dgTup, dgCons, dgNil, dgSub, dRet, dRetN, dIfS, dDrop, dNext, dBreak, dCont, dAug, dVar, dC, dBin, dTest, dChain, dTru, dNotT, dAndT, dOrT, dAndV, dOrV, dNotV, dIf, dNil, dCons, dTup, dLst, dNewDict, dNeg, dCB, dBM, dBM0, dCall, dYes,   dSl, dNoPart, dPart, qSl, dBack, qBack, dFor, dISeq, dIRng1, dIRng2, dIZip, dLc, dDc,   qAdd, qInt, qInt0, qSub, qMul, qDiv, qMod, qPow, qLt, qLe, qGt, qGe, qIs, qIsNot, qIx, qLen, qAbs, qMax, qMin, qSum, qAll, qAny, qInt_, qStr_, qList_, qTuple_, qDict_, qIsi, qSet, iAdd, iSub, iMul, iDiv, iMod,   mAppend, mExtend, mPop, truD, tyN, isTy, seqD, lstD, keyD, isNonD,   kit_ii, kit_bi, kit_si, kit_ti, kit_li, kit_di, kit_ni, kit_ib, kit_bb, kit_sb, kit_tb, kit_lb, kit_nb, kit_is, kit_ss, kit_ts, kit_ls, kit_ns, kit_it, kit_st, kit_tt, kit_lt, kit_nt, kit_il, kit_tl, kit_ll, kit_dl, kit_nl, kit_dd, kit_nd, kit_ld,   startD, wipeD, List.map_cons, List.map_nil, List.length_cons, List.length_nil, Nat.reduceAdd, Nat.reduceSub, List.replicate_succ, List.replicate_zero, List.cons_append, List.nil_append, List.getElem?_cons_zero, List.getElem?_cons_succ, List.set_cons_zero, List.set_cons_succ,   List.length_append, List.length_set, set_get, Option.map_some, List.set_set, atI_0, atI_1, atI_2, atI_3, atI_4, atI_5, atI_6, List.append_assoc, Nat.add_assoc, getK, getK0, getL, setK, setK0, setL, List.length_map, mJoin, mIndex, mCount, mGet, strsOf, intsOf, blsOf, Option.bind_some, intsD_map, strsD_map, blsD_map, Option.isSome_some, szl, Nat.reduceLeDiff, qEq_ii, qNe_ii, Bool.not_true, Bool.not_false, decT, decF, dDelT, dDisp, dPairs, dFld, dFldS, dMeth, dMake, dIEnum, dAugK, dNever, dListRev, dListRg1, dPar, dListZip, dForD, mSetd, dRaise, dCallX, dMethX, dMakeX, dTryOnly, dTryAs, wipeE, qIsE, clsVal, clsVals, PySem.W.kitAny, eq_self, true_and, hc, f1]
      refine ⟨⟨by omega, by omega⟩, ?_⟩
      refine lcGo_ind (fun items M' acc => ∃ (o : MO) (ts : List Tm) (j m : Nat), DiceO o ∧ items = rngD j m ∧ j + m = s.ar ∧ M' = M.set l o ++ G ∧ acc = ts.map Tm.d ∧ ts.length = j ∧ ∀ t ∈ ts, Over ss vs t ∧ t.deep ≤ k ∧ (∀ A, (∀ g ∈ ss, g.ar ≤ A) → t.size ≤ bigOf A (k - 1))) ?_ ?_ _ _ _ ⟨o1, [], 0, s.ar, ho1, by simp, by omega, rfl, rfl, rfl, fun t h => by cases h⟩
      · rintro x rest M' acc ⟨o, ts, j, m, ho, hi, hjn, rfl, rfl, htl, hts⟩ ih
        refine ⟨trivial, ?_⟩
        cases m with
        | zero => rw [rngD_zero] at hi; cases hi
        | succ m =>
        rw [rngD_succ] at hi
        injection hi with hx hr
        subst hx hr
        have hk0 : k ≠ 0 := fun h => by have := hms.2 h; omega
        try simp only [dSeq, dAsg, dgName, dgTup, dgCons, dgNil, dgSub, dRet, dRetN, dIfS, dDrop, dNext, dBreak, dCont, dAug, dVar, dC, dBin, dTest, dChain, dTru, dNotT, dAndT, dOrT, dAndV, dOrV, dNotV, dIf, dNil, dCons, dTup, dLst, dNewDict, dNeg, dCB, dBM, dBM0, dCall, dYes,   dSl, dNoPart, dPart, qSl, dBack, qBack, dFor, dISeq, dIRng1, dIRng2, dIZip, dLc, dDc,   qAdd, qInt, qInt0, qSub, qMul, qDiv, qMod, qPow, qLt, qLe, qGt, qGe, qIs, qIsNot, qIx, qLen, qAbs, qMax, qMin, qSum, qAll, qAny, qInt_, qStr_, qList_, qTuple_, qDict_, qIsi, qSet, iAdd, iSub, iMul, iDiv, iMod,   mAppend, mExtend, mPop, truD, tyN, isTy, seqD, lstD, keyD, isNonD,   kit_ii, kit_bi, kit_si, kit_ti, kit_li, kit_di, kit_ni, kit_ib, kit_bb, kit_sb, kit_tb, kit_lb, kit_nb, kit_is, kit_ss, kit_ts, kit_ls, kit_ns, kit_it, kit_st, kit_tt, kit_lt, kit_nt, kit_il, kit_tl, kit_ll, kit_dl, kit_nl, kit_dd, kit_nd, kit_ld,   startD, wipeD, List.map_cons, List.map_nil, List.length_cons, List.length_nil, Nat.reduceAdd, Nat.reduceSub, List.replicate_succ, List.replicate_zero, List.cons_append, List.nil_append, List.getElem?_cons_zero, List.getElem?_cons_succ, List.set_cons_zero, List.set_cons_succ,   List.length_append, List.length_set, set_get, Option.map_some, List.set_set, atI_0, atI_1, atI_2, atI_3, atI_4, atI_5, atI_6, List.append_assoc, Nat.add_assoc, getK, getK0, getL, setK, setK0, setL, List.length_map, mJoin, mIndex, mCount, mGet, strsOf, intsOf, blsOf, Option.bind_some, intsD_map, strsD_map, blsD_map, Option.isSome_some, szl, Nat.reduceLeDiff, qEq_ii, qNe_ii, Bool.not_true, Bool.not_false, decT, decF, dDelT, dDisp, dPairs, dFld, dFldS, dMeth, dMake, dIEnum, dAugK, dNever, dListRev, dListRg1, dPar, dListZip, dForD, mSetd, dRaise, dCallX, dMethX, dMakeX, dTryOnly, dTryAs, wipeE, qIsE, clsVal, clsVals, PySem.W.kitAny, eq_self, true_and]
        refine ⟨l, a, b, k - 1, ss, vs, by rw [show ((k - 1 : Nat) : Int) = (k : Int) - 1 by omega], by omega, by omega, ⟨o, by rw [getL (by simpa using hlt)]; simp [hlt], ho⟩, hla, hlb, (hget o G).1, (hget o G).2, hss, hvs, fun o2 t ho2 ht htd htz => ?_⟩
        try simp only [dSeq, dAsg, dgName, dgTup, dgCons, dgNil, dgSub, dRet, dRetN, dIfS, dDrop, dNext, dBreak, dCont, dAug, dVar, dC, dBin, dTest, dChain, dTru, dNotT, dAndT, dOrT, dAndV, dOrV, dNotV, dIf, dNil, dCons, dTup, dLst, dNewDict, dNeg, dCB, dBM, dBM0, dCall, dYes,   dSl, dNoPart, dPart, qSl, dBack, qBack, dFor, dISeq, dIRng1, dIRng2, dIZip, dLc, dDc,   qAdd, qInt, qInt0, qSub, qMul, qDiv, qMod, qPow, qLt, qLe, qGt, qGe, qIs, qIsNot, qIx, qLen, qAbs, qMax, qMin, qSum, qAll, qAny, qInt_, qStr_, qList_, qTuple_, qDict_, qIsi, qSet, iAdd, iSub, iMul, iDiv, iMod,   mAppend, mExtend, mPop, truD, tyN, isTy, seqD, lstD, keyD, isNonD,   kit_ii, kit_bi, kit_si, kit_ti, kit_li, kit_di, kit_ni, kit_ib, kit_bb, kit_sb, kit_tb, kit_lb, kit_nb, kit_is, kit_ss, kit_ts, kit_ls, kit_ns, kit_it, kit_st, kit_tt, kit_lt, kit_nt, kit_il, kit_tl, kit_ll, kit_dl, kit_nl, kit_dd, kit_nd, kit_ld,   startD, wipeD, List.map_cons, List.map_nil, List.length_cons, List.length_nil, Nat.reduceAdd, Nat.reduceSub, List.replicate_succ, List.replicate_zero, List.cons_append, List.nil_append, List.getElem?_cons_zero, List.getElem?_cons_succ, List.set_cons_zero, List.set_cons_succ,   List.length_append, List.length_set, set_get, Option.map_some, List.set_set, atI_0, atI_1, atI_2, atI_3, atI_4, atI_5, atI_6, List.append_assoc, Nat.add_assoc, getK, getK0, getL, setK, setK0, setL, List.length_map, mJoin, mIndex, mCount, mGet, strsOf, intsOf, blsOf, Option.bind_some, intsD_map, strsD_map, blsD_map, Option.isSome_some, szl, Nat.reduceLeDiff, qEq_ii, qNe_ii, Bool.not_true, Bool.not_false, decT, decF, dDelT, dDisp, dPairs, dFld, dFldS, dMeth, dMake, dIEnum, dAugK, dNever, dListRev, dListRg1, dPar, dListZip, dForD, mSetd, dRaise, dCallX, dMethX, dMakeX, dTryOnly, dTryAs, wipeE, qIsE, clsVal, clsVals, PySem.W.kitAny, eq_self, true_and, hlt]
        refine ⟨by omega, ih _ _ ⟨o2, ts ++ [t], j + 1, m, ho2, by rw [Int.natCast_add]; rfl, by omega, rfl, by rw [List.map_append]; rfl, by simp; omega, fun t' h' => ?_⟩⟩
        rcases List.mem_append.mp h' with h | h
        · exact hts _ h
        · have : t' = t := by simpa using h
          subst this
          exact ⟨ht, by omega, htz⟩
      · rintro M' acc ⟨o, ts, j, m, ho, hi, hjn, rfl, rfl, htl, hts⟩
        have hn0 : m = 0 := by
          have := congrArg List.length hi
          rw [rngD_length] at this
          simpa using this.symm
        subst hn0
        refine ⟨trivial, ?_⟩
        try simp only [dSeq, dAsg, dgName, dgTup, dgCons, dgNil, dgSub, dRet, dRetN, dIfS, dDrop, dNext, dBreak, dCont, dAug, dVar, dC, dBin, dTest, dChain, dTru, dNotT, dAndT, dOrT, dAndV, dOrV, dNotV, dIf, dNil, dCons, dTup, dLst, dNewDict, dNeg, dCB, dBM, dBM0, dCall, dYes,   dSl, dNoPart, dPart, qSl, dBack, qBack, dFor, dISeq, dIRng1, dIRng2, dIZip, dLc, dDc,   qAdd, qInt, qInt0, qSub, qMul, qDiv, qMod, qPow, qLt, qLe, qGt, qGe, qIs, qIsNot, qIx, qLen, qAbs, qMax, qMin, qSum, qAll, qAny, qInt_, qStr_, qList_, qTuple_, qDict_, qIsi, qSet, iAdd, iSub, iMul, iDiv, iMod,   mAppend, mExtend, mPop, truD, tyN, isTy, seqD, lstD, keyD, isNonD,   kit_ii, kit_bi, kit_si, kit_ti, kit_li, kit_di, kit_ni, kit_ib, kit_bb, kit_sb, kit_tb, kit_lb, kit_nb, kit_is, kit_ss, kit_ts, kit_ls, kit_ns, kit_it, kit_st, kit_tt, kit_lt, kit_nt, kit_il, kit_tl, kit_ll, kit_dl, kit_nl, kit_dd, kit_nd, kit_ld,   startD, wipeD, List.map_cons, List.map_nil, List.length_cons, List.length_nil, Nat.reduceAdd, Nat.reduceSub, List.replicate_succ, List.replicate_zero, List.cons_append, List.nil_append, List.getElem?_cons_zero, List.getElem?_cons_succ, List.set_cons_zero, List.set_cons_succ,   List.length_append, List.length_set, set_get, Option.map_some, List.set_set, atI_0, atI_1, atI_2, atI_3, atI_4, atI_5, atI_6, List.append_assoc, Nat.add_assoc, getK, getK0, getL, setK, setK0, setL, List.length_map, mJoin, mIndex, mCount, mGet, strsOf, intsOf, blsOf, Option.bind_some, intsD_map, strsD_map, blsD_map, Option.isSome_some, szl, Nat.reduceLeDiff, qEq_ii, qNe_ii, Bool.not_true, Bool.not_false, decT, decF, dDelT, dDisp, dPairs, dFld, dFldS, dMeth, dMake, dIEnum, dAugK, dNever, dListRev, dListRg1, dPar, dListZip, dForD, mSetd, dRaise, dCallX, dMethX, dMakeX, dTryOnly, dTryAs, wipeE, qIsE, clsVal, clsVals, PySem.W.kitAny, eq_self, true_and]
        have hd' : (Tm.app s.nm ts).d = D.tup (.str s.nm :: ts.map Tm.d) := Tm.d_app ..
        refine ⟨by omega, Done.old (okM_set hM (ho.ok _)) (takeK (by simp)) (by rw [← hd']; exact Tm.ok _ _) ?_⟩
        rw [← hd']
        refine q _ _ ho (.app hms.1 (by omega) fun t ht => (hts t ht).1) ?_ fun A hA => ?_
        · rw [Tm.deep_app]
          have := Tm.deeps_le (n := k) fun t ht => (hts t ht).2.1
          omega
        · by_cases hk0 : k = 0
          · have h0 := hms.2 hk0
            have hn : ts = [] := List.eq_nil_of_length_eq_zero (by omega)
            subst hn hk0
            rw [Tm.size_app, Tm.sizes_nil]
            exact Nat.le_refl _
          · obtain ⟨k', rfl⟩ : ∃ k', k = k' + 1 := ⟨k - 1, by omega⟩
            exact size_big (by have := hA _ hms.1; omega) fun t ht => (hts t ht).2.2 A hA
    · try simp only [dSeq, dAsg, dgName, dgTup, dgCons, dgNil, dgSub, dRet, dRetN, dIfS, dDrop, dNext, dBreak, dCont, dAug, dVar, dC, dBin, dTest, dChain, dTru, dNotT, dAndT, dOrT, dAndV, dOrV, dNotV, dIf, dNil, dCons, dTup, dLst, dNewDict, dNeg, dCB, dBM, dBM0, dCall, dYes,   dSl, dNoPart, dPart, qSl, dBack, qBack, dFor, dISeq, dIRng1, dIRng2, dIZip, dLc, dDc,   qAdd, qInt, qInt0, qSub, qMul, qDiv, qMod, qPow, qLt, qLe, qGt, qGe, qIs, qIsNot, qIx, qLen, qAbs, qMax, qMin, qSum, qAll, qAny, qInt_, qStr_, qList_, qTuple_, qDict_, qIsi, qSet, iAdd, iSub, iMul, iDiv, iMod,   mAppend, mExtend, mPop, truD, tyN, isTy, seqD, lstD, keyD, isNonD,   kit_ii, kit_bi, kit_si, kit_ti, kit_li, kit_di, kit_ni, kit_ib, kit_bb, kit_sb, kit_tb, kit_lb, kit_nb, kit_is, kit_ss, kit_ts, kit_ls, kit_ns, kit_it, kit_st, kit_tt, kit_lt, kit_nt, kit_il, kit_tl, kit_ll, kit_dl, kit_nl, kit_dd, kit_nd, kit_ld,   startD, wipeD, List.map_cons, List.map_nil, List.length_cons, List.length_nil, Nat.reduceAdd, Nat.reduceSub, List.replicate_succ, List.replicate_zero, List.cons_append, List.nil_append, List.getElem?_cons_zero, List.getElem?_cons_succ, List.set_cons_zero, List.set_cons_succ,   List.length_append, List.length_set, set_get, Option.map_some, List.set_set, atI_0, atI_1, atI_2, atI_3, atI_4, atI_5, atI_6, List.append_assoc, Nat.add_assoc, getK, getK0, getL, setK, setK0, setL, List.length_map, mJoin, mIndex, mCount, mGet, strsOf, intsOf, blsOf, Option.bind_some, intsD_map, strsD_map, blsD_map, Option.isSome_some, szl, Nat.reduceLeDiff, qEq_ii, qNe_ii, Bool.not_true, Bool.not_false, decT, decF, dDelT, dDisp, dPairs, dFld, dFldS, dMeth, dMake, dIEnum, dAugK, dNever, dListRev, dListRg1, dPar, dListZip, dForD, mSetd, dRaise, dCallX, dMethX, dMakeX, dTryOnly, dTryAs, wipeE, qIsE, clsVal, clsVals, PySem.W.kitAny, eq_self, true_and, (hget o G).1]
      by_cases hk0 : k = 0
      · rw [decide_eq_true (by omega)]
        refine lcGo_ind (fun items M' acc => ∃ p s : List Sg, ss = p ++ s ∧ items = s.map Sg.d ∧ M' = M.set l o ++ G ∧ acc = (p.filter fun s => s.ar == 0).map Sg.d) ?_ ?_ _ _ _ ⟨[], ss, rfl, rfl, rfl, rfl⟩
        · rintro x rest M' acc ⟨p, s, hps, hi, rfl, rfl⟩ ih
          refine ⟨(hget o G).1, ?_⟩
          cases s with
          | nil => cases hi
          | cons g s =>
          simp only [List.map_cons] at hi
          injection hi with hx hr
          subst hx hr
          have hg : g.d = .tup [.str g.nm, .int g.ar, .int g.wt] := rfl
          try simp only [dSeq, dAsg, dgName, dgTup, dgCons, dgNil, dgSub, dRet, dRetN, dIfS, dDrop, dNext, dBreak, dCont, dAug, dVar, dC, dBin, dTest, dChain, dTru, dNotT, dAndT, dOrT, dAndV, dOrV, dNotV, dIf, dNil, dCons, dTup, dLst, dNewDict, dNeg, dCB, dBM, dBM0, dCall, dYes,   dSl, dNoPart, dPart, qSl, dBack, qBack, dFor, dISeq, dIRng1, dIRng2, dIZip, dLc, dDc,   qAdd, qInt, qInt0, qSub, qMul, qDiv, qMod, qPow, qLt, qLe, qGt, qGe, qIs, qIsNot, qIx, qLen, qAbs, qMax, qMin, qSum, qAll, qAny, qInt_, qStr_, qList_, qTuple_, qDict_, qIsi, qSet, iAdd, iSub, iMul, iDiv, iMod,   mAppend, mExtend, mPop, truD, tyN, isTy, seqD, lstD, keyD, isNonD,   kit_ii, kit_bi, kit_si, kit_ti, kit_li, kit_di, kit_ni, kit_ib, kit_bb, kit_sb, kit_tb, kit_lb, kit_nb, kit_is, kit_ss, kit_ts, kit_ls, kit_ns, kit_it, kit_st, kit_tt, kit_lt, kit_nt, kit_il, kit_tl, kit_ll, kit_dl, kit_nl, kit_dd, kit_nd, kit_ld,   startD, wipeD, List.map_cons, List.map_nil, List.length_cons, List.length_nil, Nat.reduceAdd, Nat.reduceSub, List.replicate_succ, List.replicate_zero, List.cons_append, List.nil_append, List.getElem?_cons_zero, List.getElem?_cons_succ, List.set_cons_zero, List.set_cons_succ,   List.length_append, List.length_set, set_get, Option.map_some, List.set_set, atI_0, atI_1, atI_2, atI_3, atI_4, atI_5, atI_6, List.append_assoc, Nat.add_assoc, getK, getK0, getL, setK, setK0, setL, List.length_map, mJoin, mIndex, mCount, mGet, strsOf, intsOf, blsOf, Option.bind_some, intsD_map, strsD_map, blsD_map, Option.isSome_some, szl, Nat.reduceLeDiff, qEq_ii, qNe_ii, Bool.not_true, Bool.not_false, decT, decF, dDelT, dDisp, dPairs, dFld, dFldS, dMeth, dMake, dIEnum, dAugK, dNever, dListRev, dListRg1, dPar, dListZip, dForD, mSetd, dRaise, dCallX, dMethX, dMakeX, dTryOnly, dTryAs, wipeE, qIsE, clsVal, clsVals, PySem.W.kitAny, eq_self, true_and, hg]
          have hpl : (List.filter (fun s => s.ar == 0) p).length < 16777216 := by
            have h1 := List.length_filter_le (fun s => s.ar == 0) p
            have h2 := hss.len
            rw [hps, List.length_append] at h2
            omega
          by_cases h0 : g.ar = 0
          · rw [decide_eq_true (by omega)]
            refine ⟨hpl, ih _ _ ⟨p ++ [g], s, by rw [hps, List.append_assoc]; rfl, rfl, rfl, ?_⟩⟩
            have : (g.ar == 0) = true := by rw [h0]; rfl
            rw [List.filter_append, List.map_append, List.filter_cons, this]
            rfl
          · rw [decide_eq_false (by omega)]
            refine ih _ _ ⟨p ++ [g], s, by rw [hps, List.append_assoc]; rfl, rfl, rfl, ?_⟩
            have : (g.ar == 0) = false := by simpa using h0
            rw [List.filter_append, List.map_append, List.filter_cons, this]
            simp
        · rintro M' acc ⟨p, s, hps, hi, rfl, rfl⟩
          have hsn : s = [] := by cases s with
            | nil => rfl
            | cons _ _ => cases hi
          subst hsn
          rw [List.append_nil] at hps
          subst hps
          refine ⟨(hget o G).1, ?_⟩
          refine hR _ _ ⟨o, G ++ [MO.lst ((ss.filter fun s => s.ar == 0).map Sg.d)], (M.set l o ++ G).length, ss.filter fun s => s.ar == 0, ho, ?_, by rw [List.append_assoc], fun o' => ?_, fun s h => ?_, ?_, ?_⟩
          · simp
          · rw [← List.append_assoc, getK0 (by simp)]
            rfl
          · rw [List.mem_filter] at h
            exact ⟨h.1, fun _ => by simpa using h.2⟩
          · have := List.length_filter_le (fun s : Sg => s.ar == 0) ss
            have := hss.len
            omega
          · obtain ⟨s, h1, h2⟩ := hss.has 0 (by omega)
            intro h
            have : s ∈ ss.filter fun s => s.ar == 0 := List.mem_filter.mpr ⟨h1, by simp [h2]⟩
            rw [h] at this
            cases this
      · rw [decide_eq_false (by omega)]
        refine hR _ _ ⟨o, G, a, ss, ho, rfl, rfl, fun o' => (hget o' G).1, fun s h => ⟨h, fun h' => absurd h' hk0⟩, by have := hss.len; omega, fun h => ?_⟩
        have := hss.len
        rw [h] at this
        simp at this
  · try simp only [dSeq, dAsg, dgName, dgTup, dgCons, dgNil, dgSub, dRet, dRetN, dIfS, dDrop, dNext, dBreak, dCont, dAug, dVar, dC, dBin, dTest, dChain, dTru, dNotT, dAndT, dOrT, dAndV, dOrV, dNotV, dIf, dNil, dCons, dTup, dLst, dNewDict, dNeg, dCB, dBM, dBM0, dCall, dYes,   dSl, dNoPart, dPart, qSl, dBack, qBack, dFor, dISeq, dIRng1, dIRng2, dIZip, dLc, dDc,   qAdd, qInt, qInt0, qSub, qMul, qDiv, qMod, qPow, qLt, qLe, qGt, qGe, qIs, qIsNot, qIx, qLen, qAbs, qMax, qMin, qSum, qAll, qAny, qInt_, qStr_, qList_, qTuple_, qDict_, qIsi, qSet, iAdd, iSub, iMul, iDiv, iMod,   mAppend, mExtend, mPop, truD, tyN, isTy, seqD, lstD, keyD, isNonD,   kit_ii, kit_bi, kit_si, kit_ti, kit_li, kit_di, kit_ni, kit_ib, kit_bb, kit_sb, kit_tb, kit_lb, kit_nb, kit_is, kit_ss, kit_ts, kit_ls, kit_ns, kit_it, kit_st, kit_tt, kit_lt, kit_nt, kit_il, kit_tl, kit_ll, kit_dl, kit_nl, kit_dd, kit_nd, kit_ld,   startD, wipeD, List.map_cons, List.map_nil, List.length_cons, List.length_nil, Nat.reduceAdd, Nat.reduceSub, List.replicate_succ, List.replicate_zero, List.cons_append, List.nil_append, List.getElem?_cons_zero, List.getElem?_cons_succ, List.set_cons_zero, List.set_cons_succ,   List.length_append, List.length_set, set_get, Option.map_some, List.set_set, atI_0, atI_1, atI_2, atI_3, atI_4, atI_5, atI_6, List.append_assoc, Nat.add_assoc, getK, getK0, getL, setK, setK0, setL, List.length_map, mJoin, mIndex, mCount, mGet, strsOf, intsOf, blsOf, Option.bind_some, intsD_map, strsD_map, blsD_map, Option.isSome_some, szl, Nat.reduceLeDiff, qEq_ii, qNe_ii, Bool.not_true, Bool.not_false, decT, decF, dDelT, dDisp, dPairs, dFld, dFldS, dMeth, dMake, dIEnum, dAugK, dNever, dListRev, dListRg1, dPar, dListZip, dForD, mSetd, dRaise, dCallX, dMethX, dMakeX, dTryOnly, dTryAs, wipeE, qIsE, clsVal, clsVals, PySem.W.kitAny, eq_self, true_and, ha, hb, getL hb', getL ha', hb, ha]
    have hb1 : (M ++ [MO.lst []])[b]? = some (.lst (vs.map D.int)) := by rw [getL hb']; exact hb
    refine qNe_ll hb1 (getK0 rfl) pls_ints (by rfl) (.inl deps_ints) fun nb hnb => ?_
    obtain ⟨o0, ho0, he0⟩ := hself
    cases nb with
    | false =>
      try simp only [dSeq, dAsg, dgName, dgTup, dgCons, dgNil, dgSub, dRet, dRetN, dIfS, dDrop, dNext, dBreak, dCont, dAug, dVar, dC, dBin, dTest, dChain, dTru, dNotT, dAndT, dOrT, dAndV, dOrV, dNotV, dIf, dNil, dCons, dTup, dLst, dNewDict, dNeg, dCB, dBM, dBM0, dCall, dYes,   dSl, dNoPart, dPart, qSl, dBack, qBack, dFor, dISeq, dIRng1, dIRng2, dIZip, dLc, dDc,   qAdd, qInt, qInt0, qSub, qMul, qDiv, qMod, qPow, qLt, qLe, qGt, qGe, qIs, qIsNot, qIx, qLen, qAbs, qMax, qMin, qSum, qAll, qAny, qInt_, qStr_, qList_, qTuple_, qDict_, qIsi, qSet, iAdd, iSub, iMul, iDiv, iMod,   mAppend, mExtend, mPop, truD, tyN, isTy, seqD, lstD, keyD, isNonD,   kit_ii, kit_bi, kit_si, kit_ti, kit_li, kit_di, kit_ni, kit_ib, kit_bb, kit_sb, kit_tb, kit_lb, kit_nb, kit_is, kit_ss, kit_ts, kit_ls, kit_ns, kit_it, kit_st, kit_tt, kit_lt, kit_nt, kit_il, kit_tl, kit_ll, kit_dl, kit_nl, kit_dd, kit_nd, kit_ld,   startD, wipeD, List.map_cons, List.map_nil, List.length_cons, List.length_nil, Nat.reduceAdd, Nat.reduceSub, List.replicate_succ, List.replicate_zero, List.cons_append, List.nil_append, List.getElem?_cons_zero, List.getElem?_cons_succ, List.set_cons_zero, List.set_cons_succ,   List.length_append, List.length_set, set_get, Option.map_some, List.set_set, atI_0, atI_1, atI_2, atI_3, atI_4, atI_5, atI_6, List.append_assoc, Nat.add_assoc, getK, getK0, getL, setK, setK0, setL, List.length_map, mJoin, mIndex, mCount, mGet, strsOf, intsOf, blsOf, Option.bind_some, intsD_map, strsD_map, blsD_map, Option.isSome_some, szl, Nat.reduceLeDiff, qEq_ii, qNe_ii, Bool.not_true, Bool.not_false, decT, decF, dDelT, dDisp, dPairs, dFld, dFldS, dMeth, dMake, dIEnum, dAugK, dNever, dListRev, dListRg1, dPar, dListZip, dForD, mSetd, dRaise, dCallX, dMethX, dMakeX, dTryOnly, dTryAs, wipeE, qIsE, clsVal, clsVals, PySem.W.kitAny, eq_self, true_and]
      exact hR _ _ ⟨o0, [MO.lst []], ho0, rfl, by rw [he0]⟩
    | true =>
      try simp only [dSeq, dAsg, dgName, dgTup, dgCons, dgNil, dgSub, dRet, dRetN, dIfS, dDrop, dNext, dBreak, dCont, dAug, dVar, dC, dBin, dTest, dChain, dTru, dNotT, dAndT, dOrT, dAndV, dOrV, dNotV, dIf, dNil, dCons, dTup, dLst, dNewDict, dNeg, dCB, dBM, dBM0, dCall, dYes,   dSl, dNoPart, dPart, qSl, dBack, qBack, dFor, dISeq, dIRng1, dIRng2, dIZip, dLc, dDc,   qAdd, qInt, qInt0, qSub, qMul, qDiv, qMod, qPow, qLt, qLe, qGt, qGe, qIs, qIsNot, qIx, qLen, qAbs, qMax, qMin, qSum, qAll, qAny, qInt_, qStr_, qList_, qTuple_, qDict_, qIsi, qSet, iAdd, iSub, iMul, iDiv, iMod,   mAppend, mExtend, mPop, truD, tyN, isTy, seqD, lstD, keyD, isNonD,   kit_ii, kit_bi, kit_si, kit_ti, kit_li, kit_di, kit_ni, kit_ib, kit_bb, kit_sb, kit_tb, kit_lb, kit_nb, kit_is, kit_ss, kit_ts, kit_ls, kit_ns, kit_it, kit_st, kit_tt, kit_lt, kit_nt, kit_il, kit_tl, kit_ll, kit_dl, kit_nl, kit_dd, kit_nd, kit_ld,   startD, wipeD, List.map_cons, List.map_nil, List.length_cons, List.length_nil, Nat.reduceAdd, Nat.reduceSub, List.replicate_succ, List.replicate_zero, List.cons_append, List.nil_append, List.getElem?_cons_zero, List.getElem?_cons_succ, List.set_cons_zero, List.set_cons_succ,   List.length_append, List.length_set, set_get, Option.map_some, List.set_set, atI_0, atI_1, atI_2, atI_3, atI_4, atI_5, atI_6, List.append_assoc, Nat.add_assoc, getK, getK0, getL, setK, setK0, setL, List.length_map, mJoin, mIndex, mCount, mGet, strsOf, intsOf, blsOf, Option.bind_some, intsD_map, strsD_map, blsD_map, Option.isSome_some, szl, Nat.reduceLeDiff, qEq_ii, qNe_ii, Bool.not_true, Bool.not_false, decT, decF, dDelT, dDisp, dPairs, dFld, dFldS, dMeth, dMake, dIEnum, dAugK, dNever, dListRev, dListRg1, dPar, dListZip, dForD, mSetd, dRaise, dCallX, dMethX, dMakeX, dTryOnly, dTryAs, wipeE, qIsE, clsVal, clsVals, PySem.W.kitAny, eq_self, true_and]
      have hv0 : vs ≠ [] := fun h => by
        have := hnb.mp rfl
        rw [h] at this
        exact this rfl
      have hv1 : 0 < vs.length := List.length_pos_iff.mpr hv0
      refine use_offA hd (by omega) (by omega) fun r1 o1 h1 ho1 => ?_
      try simp only [dSeq, dAsg, dgName, dgTup, dgCons, dgNil, dgSub, dRet, dRetN, dIfS, dDrop, dNext, dBreak, dCont, dAug, dVar, dC, dBin, dTest, dChain, dTru, dNotT, dAndT, dOrT, dAndV, dOrV, dNotV, dIf, dNil, dCons, dTup, dLst, dNewDict, dNeg, dCB, dBM, dBM0, dCall, dYes,   dSl, dNoPart, dPart, qSl, dBack, qBack, dFor, dISeq, dIRng1, dIRng2, dIZip, dLc, dDc,   qAdd, qInt, qInt0, qSub, qMul, qDiv, qMod, qPow, qLt, qLe, qGt, qGe, qIs, qIsNot, qIx, qLen, qAbs, qMax, qMin, qSum, qAll, qAny, qInt_, qStr_, qList_, qTuple_, qDict_, qIsi, qSet, iAdd, iSub, iMul, iDiv, iMod,   mAppend, mExtend, mPop, truD, tyN, isTy, seqD, lstD, keyD, isNonD,   kit_ii, kit_bi, kit_si, kit_ti, kit_li, kit_di, kit_ni, kit_ib, kit_bb, kit_sb, kit_tb, kit_lb, kit_nb, kit_is, kit_ss, kit_ts, kit_ls, kit_ns, kit_it, kit_st, kit_tt, kit_lt, kit_nt, kit_il, kit_tl, kit_ll, kit_dl, kit_nl, kit_dd, kit_nd, kit_ld,   startD, wipeD, List.map_cons, List.map_nil, List.length_cons, List.length_nil, Nat.reduceAdd, Nat.reduceSub, List.replicate_succ, List.replicate_zero, List.cons_append, List.nil_append, List.getElem?_cons_zero, List.getElem?_cons_succ, List.set_cons_zero, List.set_cons_succ,   List.length_append, List.length_set, set_get, Option.map_some, List.set_set, atI_0, atI_1, atI_2, atI_3, atI_4, atI_5, atI_6, List.append_assoc, Nat.add_assoc, getK, getK0, getL, setK, setK0, setL, List.length_map, mJoin, mIndex, mCount, mGet, strsOf, intsOf, blsOf, Option.bind_some, intsD_map, strsD_map, blsD_map, Option.isSome_some, szl, Nat.reduceLeDiff, qEq_ii, qNe_ii, Bool.not_true, Bool.not_false, decT, decF, dDelT, dDisp, dPairs, dFld, dFldS, dMeth, dMake, dIEnum, dAugK, dNever, dListRev, dListRg1, dPar, dListZip, dForD, mSetd, dRaise, dCallX, dMethX, dMakeX, dTryOnly, dTryAs, wipeE, qIsE, clsVal, clsVals, PySem.W.kitAny, eq_self, true_and, (hget o1 [MO.lst []]).2]
      by_cases h0 : (r1 : Int) = 0
      · rw [decide_eq_true h0]
        try simp only [dSeq, dAsg, dgName, dgTup, dgCons, dgNil, dgSub, dRet, dRetN, dIfS, dDrop, dNext, dBreak, dCont, dAug, dVar, dC, dBin, dTest, dChain, dTru, dNotT, dAndT, dOrT, dAndV, dOrV, dNotV, dIf, dNil, dCons, dTup, dLst, dNewDict, dNeg, dCB, dBM, dBM0, dCall, dYes,   dSl, dNoPart, dPart, qSl, dBack, qBack, dFor, dISeq, dIRng1, dIRng2, dIZip, dLc, dDc,   qAdd, qInt, qInt0, qSub, qMul, qDiv, qMod, qPow, qLt, qLe, qGt, qGe, qIs, qIsNot, qIx, qLen, qAbs, qMax, qMin, qSum, qAll, qAny, qInt_, qStr_, qList_, qTuple_, qDict_, qIsi, qSet, iAdd, iSub, iMul, iDiv, iMod,   mAppend, mExtend, mPop, truD, tyN, isTy, seqD, lstD, keyD, isNonD,   kit_ii, kit_bi, kit_si, kit_ti, kit_li, kit_di, kit_ni, kit_ib, kit_bb, kit_sb, kit_tb, kit_lb, kit_nb, kit_is, kit_ss, kit_ts, kit_ls, kit_ns, kit_it, kit_st, kit_tt, kit_lt, kit_nt, kit_il, kit_tl, kit_ll, kit_dl, kit_nl, kit_dd, kit_nd, kit_ld,   startD, wipeD, List.map_cons, List.map_nil, List.length_cons, List.length_nil, Nat.reduceAdd, Nat.reduceSub, List.replicate_succ, List.replicate_zero, List.cons_append, List.nil_append, List.getElem?_cons_zero, List.getElem?_cons_succ, List.set_cons_zero, List.set_cons_succ,   List.length_append, List.length_set, set_get, Option.map_some, List.set_set, atI_0, atI_1, atI_2, atI_3, atI_4, atI_5, atI_6, List.append_assoc, Nat.add_assoc, getK, getK0, getL, setK, setK0, setL, List.length_map, mJoin, mIndex, mCount, mGet, strsOf, intsOf, blsOf, Option.bind_some, intsD_map, strsD_map, blsD_map, Option.isSome_some, szl, Nat.reduceLeDiff, qEq_ii, qNe_ii, Bool.not_true, Bool.not_false, decT, decF, dDelT, dDisp, dPairs, dFld, dFldS, dMeth, dMake, dIEnum, dAugK, dNever, dListRev, dListRg1, dPar, dListZip, dForD, mSetd, dRaise, dCallX, dMethX, dMakeX, dTryOnly, dTryAs, wipeE, qIsE, clsVal, clsVals, PySem.W.kitAny, eq_self, true_and, (hget o1 [MO.lst []]).2]
        refine use_off hlt ho1 (by omega) (by omega) fun r2 o2 h2 ho2 => ?_
        obtain ⟨v, hv⟩ : ∃ v, vs[r2]? = some v := ⟨_, List.getElem?_eq_getElem (by omega)⟩
        have f1 : atI (vs.map D.int) (r2 : Int) = some (.int v) := atI_nat (by rw [List.getElem?_map, hv]; rfl)
        try simp only [dSeq, dAsg, dgName, dgTup, dgCons, dgNil, dgSub, dRet, dRetN, dIfS, dDrop, dNext, dBreak, dCont, dAug, dVar, dC, dBin, dTest, dChain, dTru, dNotT, dAndT, dOrT, dAndV, dOrV, dNotV, dIf, dNil, dCons, dTup, dLst, dNewDict, dNeg, dCB, dBM, dBM0, dCall, dYes,   dSl, dNoPart, dPart, qSl, dBack, qBack, dFor, dISeq, dIRng1, dIRng2, dIZip, dLc, dDc,   qAdd, qInt, qInt0, qSub, qMul, qDiv, qMod, qPow, qLt, qLe, qGt, qGe, qIs, qIsNot, qIx, qLen, qAbs, qMax, qMin, qSum, qAll, qAny, qInt_, qStr_, qList_, qTuple_, qDict_, qIsi, qSet, iAdd, iSub, iMul, iDiv, iMod,   mAppend, mExtend, mPop, truD, tyN, isTy, seqD, lstD, keyD, isNonD,   kit_ii, kit_bi, kit_si, kit_ti, kit_li, kit_di, kit_ni, kit_ib, kit_bb, kit_sb, kit_tb, kit_lb, kit_nb, kit_is, kit_ss, kit_ts, kit_ls, kit_ns, kit_it, kit_st, kit_tt, kit_lt, kit_nt, kit_il, kit_tl, kit_ll, kit_dl, kit_nl, kit_dd, kit_nd, kit_ld,   startD, wipeD, List.map_cons, List.map_nil, List.length_cons, List.length_nil, Nat.reduceAdd, Nat.reduceSub, List.replicate_succ, List.replicate_zero, List.cons_append, List.nil_append, List.getElem?_cons_zero, List.getElem?_cons_succ, List.set_cons_zero, List.set_cons_succ,   List.length_append, List.length_set, set_get, Option.map_some, List.set_set, atI_0, atI_1, atI_2, atI_3, atI_4, atI_5, atI_6, List.append_assoc, Nat.add_assoc, getK, getK0, getL, setK, setK0, setL, List.length_map, mJoin, mIndex, mCount, mGet, strsOf, intsOf, blsOf, Option.bind_some, intsD_map, strsD_map, blsD_map, Option.isSome_some, szl, Nat.reduceLeDiff, qEq_ii, qNe_ii, Bool.not_true, Bool.not_false, decT, decF, dDelT, dDisp, dPairs, dFld, dFldS, dMeth, dMake, dIEnum, dAugK, dNever, dListRev, dListRg1, dPar, dListZip, dForD, mSetd, dRaise, dCallX, dMethX, dMakeX, dTryOnly, dTryAs, wipeE, qIsE, clsVal, clsVals, PySem.W.kitAny, eq_self, true_and, (hget o2 [MO.lst []]).2, f1]
        refine Done.old (okM_set hM (ho2.ok _)) (takeK (by simp)) rfl ?_
        have := q o2 (.var v) ho2 (.var (List.mem_of_getElem? hv)) (by rw [Tm.deep_var]; omega) (fun A _ => by rw [Tm.size_var]; cases k <;> simp [bigOf])
        rwa [Tm.d_var] at this
      · rw [decide_eq_false h0]
        exact hR _ _ ⟨o1, [MO.lst []], ho1, rfl, rfl⟩
end
section
variable {P : Program} {w : World} {K : PySem.W.Frag} {mg : Str → Option Value} {base : Heap}
def sp_places (n : Nat) : DSp := fun ds M Q _ => ∃ t : Tm, ds = [t.d] ∧ t.deep < n ∧ t.size ≤ 1000 ∧ Q (.loc M.length) (M ++ [.lst (t.places.map plcD)])
theorem plc_cons (k : Nat) (p : List Nat) : plcD (k :: p) = .tup (.int (k : Nat) :: p.map fun k => D.int (k : Nat)) := rfl
theorem okDs_plc (n : Nat) (l : List (List Nat)) : okDs n (l.map plcD) = true := by
  rw [okDs_iff]
  intro d hd
  obtain ⟨p, _, rfl⟩ := List.mem_map.mp hd
  unfold plcD okD
  rw [okDs_iff]
  intro e he
  obtain ⟨i, _, rfl⟩ := List.mem_map.mp he
  rfl
theorem fn_places (T : Top K mg) (n : Nat) : DFn P w K mg base CX0 n "_law_places" ["_law_term_here"] (sp_places n) := by
  induction n with
  | zero =>
    obtain ⟨fd, F⟩ := T.d__law_places
    refine (DFn.nothing F T.g__law_places (FunD.bindsN F fun _ _ _ _ _ _ us hl => match us, hl with | [_], _ => rfl)).imp ?_
    rintro ds M Q E ⟨t, rfl, h, _⟩
    omega
  | succ n ih =>
  have F__law_places := ih
  obtain ⟨fd, F⟩ := T.d__law_places
  have sc := sc__law_places
  refine DFn.ofD (k := n) F T.g__law_places (FunD.bindsN F fun _ _ _ _ _ _ us hl => match us, hl with | [_], _ => rfl) sc ?len ⟨_, fun cdv A outer s H E m0 hr => (
      (dss_cons (ds_set 1 sc.nd (de_lst da_nil))
      (dss_cons (ds_if (dt_not (dt_e (de_cb T.n_isinstance dc_isi b_isinstance (da_cons (de_var 0) (da_cons (de_ty T.n_int b_int) da_nil))))) (dss_one (ds_for PassesOwn.never rfl (di_rng2 T.n_range (da_cons de_int (da_cons (de_cb T.n_len dc_len b_len (da_cons (de_var 0) da_nil)) da_nil))) (dg_name 2 sc.nd) (dss_one (ds_set 1 sc.nd (de_bin dop_add (de_var 1) (de_lc 3 (own := [("_law_place", 3)]) rfl sc.nd (di_seq (de_call F__law_places (hr.mono (by omega)) pass0 (da_cons (de_ix hr (de_var 0) (de_var 2)) da_nil))) (show blkC ["_law_term_here", "_law_found", "_law_k", "_law_place"] (defScope s__law_places) _ [("_law_place", 3)] = true by decide +kernel) (by decide) (fun _ _ _ _ _ => pg_name (i := 3) sc.nd rfl (by first | exact Or.inl rfl | exact Or.inr rfl)) (fun _ _ _ _ _ => dts_nil) (fun _ _ _ _ _ => (de_bin dop_add (de_tup (da_cons (de_var 2) da_nil)) (de_var 3))))))))) dss_nil)
      (dss_one (ds_ret (de_bin dop_add (de_var 1) (de_lst (da_cons (de_tup da_nil) da_nil)))))))), ?_⟩
  case len =>
    rintro ds M Q E ⟨t, rfl, _⟩
    rfl
  rintro ds M Qd Ed ⟨t, rfl, hd, hsz, q⟩ hM
  cases t with
  | var i =>
    rw [Tm.places_var] at q
    rw [Tm.d_var]
    try simp only [dSeq, dAsg, dgName, dgTup, dgCons, dgNil, dgSub, dRet, dRetN, dIfS, dDrop, dNext, dBreak, dCont, dAug, dVar, dC, dBin, dTest, dChain, dTru, dNotT, dAndT, dOrT, dAndV, dOrV, dNotV, dIf, dNil, dCons, dTup, dLst, dNewDict, dNeg, dCB, dBM, dBM0, dCall, dYes,   dSl, dNoPart, dPart, qSl, dBack, qBack, dFor, dISeq, dIRng1, dIRng2, dIZip, dLc, dDc,   qAdd, qInt, qInt0, qSub, qMul, qDiv, qMod, qPow, qLt, qLe, qGt, qGe, qIs, qIsNot, qIx, qLen, qAbs, qMax, qMin, qSum, qAll, qAny, qInt_, qStr_, qList_, qTuple_, qDict_, qIsi, qSet, iAdd, iSub, iMul, iDiv, iMod,   mAppend, mExtend, mPop, truD, tyN, isTy, seqD, lstD, keyD, isNonD,   kit_ii, kit_bi, kit_si, kit_ti, kit_li, kit_di, kit_ni, kit_ib, kit_bb, kit_sb, kit_tb, kit_lb, kit_nb, kit_is, kit_ss, kit_ts, kit_ls, kit_ns, kit_it, kit_st, kit_tt, kit_lt, kit_nt, kit_il, kit_tl, kit_ll, kit_dl, kit_nl, kit_dd, kit_nd, kit_ld,   startD, wipeD, List.map_cons, List.map_nil, List.length_cons, List.length_nil, Nat.reduceAdd, Nat.reduceSub, List.replicate_succ, List.replicate_zero, List.cons_append, List.nil_append, List.getElem?_cons_zero, List.getElem?_cons_succ, List.set_cons_zero, List.set_cons_succ,   List.length_append, List.length_set, set_get, Option.map_some, List.set_set, atI_0, atI_1, atI_2, atI_3, atI_4, atI_5, atI_6, List.append_assoc, Nat.add_assoc, getK, getK0, getL, setK, setK0, setL, List.length_map, mJoin, mIndex, mCount, mGet, strsOf, intsOf, blsOf, Option.bind_some, intsD_map, strsD_map, blsD_map, Option.isSome_some, szl, Nat.reduceLeDiff, qEq_ii, qNe_ii, Bool.not_true, Bool.not_false, decT, decF, dDelT, dDisp, dPairs, dFld, dFldS, dMeth, dMake, dIEnum, dAugK, dNever, dListRev, dListRg1, dPar, dListZip, dForD, mSetd, dRaise, dCallX, dMethX, dMakeX, dTryOnly, dTryAs, wipeE, qIsE, clsVal, clsVals, PySem.W.kitAny, eq_self, true_and]
    exact Done.list hM (takeK rfl) (by omega) (by rw [getK rfl]; rfl) (okDs_plc _ _) q
  | app f ts =>
    rw [Tm.places_app] at q
    rw [Tm.d_app]
    rw [Tm.deep_app] at hd
    rw [Tm.size_app] at hsz
    have hl0 := Tm.len_sizes ts
    try simp only [dSeq, dAsg, dgName, dgTup, dgCons, dgNil, dgSub, dRet, dRetN, dIfS, dDrop, dNext, dBreak, dCont, dAug, dVar, dC, dBin, dTest, dChain, dTru, dNotT, dAndT, dOrT, dAndV, dOrV, dNotV, dIf, dNil, dCons, dTup, dLst, dNewDict, dNeg, dCB, dBM, dBM0, dCall, dYes,   dSl, dNoPart, dPart, qSl, dBack, qBack, dFor, dISeq, dIRng1, dIRng2, dIZip, dLc, dDc,   qAdd, qInt, qInt0, qSub, qMul, qDiv, qMod, qPow, qLt, qLe, qGt, qGe, qIs, qIsNot, qIx, qLen, qAbs, qMax, qMin, qSum, qAll, qAny, qInt_, qStr_, qList_, qTuple_, qDict_, qIsi, qSet, iAdd, iSub, iMul, iDiv, iMod,   mAppend, mExtend, mPop, truD, tyN, isTy, seqD, lstD, keyD, isNonD,   kit_ii, kit_bi, kit_si, kit_ti, kit_li, kit_di, kit_ni, kit_ib, kit_bb, kit_sb, kit_tb, kit_lb, kit_nb, kit_is, kit_ss, kit_ts, kit_ls, kit_ns, kit_it, kit_st, kit_tt, kit_lt, kit_nt, kit_il, kit_tl, kit_ll, kit_dl, kit_nl, kit_dd, kit_nd, kit_ld,   startD, wipeD, List.map_cons, List.map_nil, List.length_cons, List.length_nil, Nat.reduceAdd, Nat.reduceSub, List.replicate_succ, List.replicate_zero, List.cons_append, List.nil_append, List.getElem?_cons_zero, List.getElem?_cons_succ, List.set_cons_zero, List.set_cons_succ,   List.length_append, List.length_set, set_get, Option.map_some, List.set_set, atI_0, atI_1, atI_2, atI_3, atI_4, atI_5, atI_6, List.append_assoc, Nat.add_assoc, getK, getK0, getL, setK, setK0, setL, List.length_map, mJoin, mIndex, mCount, mGet, strsOf, intsOf, blsOf, Option.bind_some, intsD_map, strsD_map, blsD_map, Option.isSome_some, szl, Nat.reduceLeDiff, qEq_ii, qNe_ii, Bool.not_true, Bool.not_false, decT, decF, dDelT, dDisp, dPairs, dFld, dFldS, dMeth, dMake, dIEnum, dAugK, dNever, dListRev, dListRg1, dPar, dListZip, dForD, mSetd, dRaise, dCallX, dMethX, dMakeX, dTryOnly, dTryAs, wipeE, qIsE, clsVal, clsVals, PySem.W.kitAny, eq_self, true_and]
    refine ⟨⟨by omega, by omega, by omega, by omega⟩, ?_⟩
    have e0 : (((ts.length + 1 : Nat) : Int) - 1).toNat = ts.length := by omega
    rw [e0]
    refine forGo_ind (fun items r M' => ∃ (ps ss : List Tm) (G : Mem) (c : Nat) (u v : Option D), ts = ps ++ ss ∧ items = rngD (1 + (ps.length : Nat)) ss.length ∧ r = [some (D.tup (D.str f :: List.map Tm.d ts)), some (.loc c), u, v] ∧ M' = M ++ G ∧ M.length ≤ c ∧ M'[c]? = some (.lst ((Tm.placesL 0 ps).map plcD))) ?_ ?_ _ _ _
      ⟨[], ts, [.lst []], M.length, none, none, rfl, rfl, rfl, rfl, Nat.le_refl _, by rw [Tm.placesL_nil]; simp⟩
    · rintro x rest r M' ⟨ps, ss, G, c, u, v, hps, hi, rfl, rfl, hcl, hc⟩ ih'
      refine ⟨trivial, ?_⟩
      cases ss with
      | nil => rw [List.length_nil, rngD_zero] at hi; cases hi
      | cons t ss =>
      rw [List.length_cons, rngD_succ] at hi
      injection hi with hx hr
      subst hx hr
      have ht : t ∈ ts := by rw [hps]; simp
      have h1 := Tm.deep_mem ht
      have h2 := Tm.size_mem ht
      have f1 : atI (D.str f :: List.map Tm.d ts) (1 + ((ps.length : Nat) : Int)) = some t.d := by
        rw [show (1 + ((ps.length : Nat) : Int)) = ((ps.length + 1 : Nat) : Int) by omega]
        refine atI_nat ?_
        rw [List.getElem?_cons_succ, hps, List.map_append, List.getElem?_append_right (by simp)]
        simp
      try simp only [dSeq, dAsg, dgName, dgTup, dgCons, dgNil, dgSub, dRet, dRetN, dIfS, dDrop, dNext, dBreak, dCont, dAug, dVar, dC, dBin, dTest, dChain, dTru, dNotT, dAndT, dOrT, dAndV, dOrV, dNotV, dIf, dNil, dCons, dTup, dLst, dNewDict, dNeg, dCB, dBM, dBM0, dCall, dYes,   dSl, dNoPart, dPart, qSl, dBack, qBack, dFor, dISeq, dIRng1, dIRng2, dIZip, dLc, dDc,   qAdd, qInt, qInt0, qSub, qMul, qDiv, qMod, qPow, qLt, qLe, qGt, qGe, qIs, qIsNot, qIx, qLen, qAbs, qMax, qMin, qSum, qAll, qAny, qInt_, qStr_, qList_, qTuple_, qDict_, qIsi, qSet, iAdd, iSub, iMul, iDiv, iMod,   mAppend, mExtend, mPop, truD, tyN, isTy, seqD, lstD, keyD, isNonD,   kit_ii, kit_bi, kit_si, kit_ti, kit_li, kit_di, kit_ni, kit_ib, kit_bb, kit_sb, kit_tb, kit_lb, kit_nb, kit_is, kit_ss, kit_ts, kit_ls, kit_ns, kit_it, kit_st, kit_tt, kit_lt, kit_nt, kit_il, kit_tl, kit_ll, kit_dl, kit_nl, kit_dd, kit_nd, kit_ld,   startD, wipeD, List.map_cons, List.map_nil, List.length_cons, List.length_nil, Nat.reduceAdd, Nat.reduceSub, List.replicate_succ, List.replicate_zero, List.cons_append, List.nil_append, List.getElem?_cons_zero, List.getElem?_cons_succ, List.set_cons_zero, List.set_cons_succ,   List.length_append, List.length_set, set_get, Option.map_some, List.set_set, atI_0, atI_1, atI_2, atI_3, atI_4, atI_5, atI_6, List.append_assoc, Nat.add_assoc, getK, getK0, getL, setK, setK0, setL, List.length_map, mJoin, mIndex, mCount, mGet, strsOf, intsOf, blsOf, Option.bind_some, intsD_map, strsD_map, blsD_map, Option.isSome_some, szl, Nat.reduceLeDiff, qEq_ii, qNe_ii, Bool.not_true, Bool.not_false, decT, decF, dDelT, dDisp, dPairs, dFld, dFldS, dMeth, dMake, dIEnum, dAugK, dNever, dListRev, dListRg1, dPar, dListZip, dForD, mSetd, dRaise, dCallX, dMethX, dMakeX, dTryOnly, dTryAs, wipeE, qIsE, clsVal, clsVals, PySem.W.kitAny, eq_self, true_and, f1]
      refine ⟨t, rfl, by omega, by omega, ?_⟩
      try simp only [dSeq, dAsg, dgName, dgTup, dgCons, dgNil, dgSub, dRet, dRetN, dIfS, dDrop, dNext, dBreak, dCont, dAug, dVar, dC, dBin, dTest, dChain, dTru, dNotT, dAndT, dOrT, dAndV, dOrV, dNotV, dIf, dNil, dCons, dTup, dLst, dNewDict, dNeg, dCB, dBM, dBM0, dCall, dYes,   dSl, dNoPart, dPart, qSl, dBack, qBack, dFor, dISeq, dIRng1, dIRng2, dIZip, dLc, dDc,   qAdd, qInt, qInt0, qSub, qMul, qDiv, qMod, qPow, qLt, qLe, qGt, qGe, qIs, qIsNot, qIx, qLen, qAbs, qMax, qMin, qSum, qAll, qAny, qInt_, qStr_, qList_, qTuple_, qDict_, qIsi, qSet, iAdd, iSub, iMul, iDiv, iMod,   mAppend, mExtend, mPop, truD, tyN, isTy, seqD, lstD, keyD, isNonD,   kit_ii, kit_bi, kit_si, kit_ti, kit_li, kit_di, kit_ni, kit_ib, kit_bb, kit_sb, kit_tb, kit_lb, kit_nb, kit_is, kit_ss, kit_ts, kit_ls, kit_ns, kit_it, kit_st, kit_tt, kit_lt, kit_nt, kit_il, kit_tl, kit_ll, kit_dl, kit_nl, kit_dd, kit_nd, kit_ld,   startD, wipeD, List.map_cons, List.map_nil, List.length_cons, List.length_nil, Nat.reduceAdd, Nat.reduceSub, List.replicate_succ, List.replicate_zero, List.cons_append, List.nil_append, List.getElem?_cons_zero, List.getElem?_cons_succ, List.set_cons_zero, List.set_cons_succ,   List.length_append, List.length_set, set_get, Option.map_some, List.set_set, atI_0, atI_1, atI_2, atI_3, atI_4, atI_5, atI_6, List.append_assoc, Nat.add_assoc, getK, getK0, getL, setK, setK0, setL, List.length_map, mJoin, mIndex, mCount, mGet, strsOf, intsOf, blsOf, Option.bind_some, intsD_map, strsD_map, blsD_map, Option.isSome_some, szl, Nat.reduceLeDiff, qEq_ii, qNe_ii, Bool.not_true, Bool.not_false, decT, decF, dDelT, dDisp, dPairs, dFld, dFldS, dMeth, dMake, dIEnum, dAugK, dNever, dListRev, dListRg1, dPar, dListZip, dForD, mSetd, dRaise, dCallX, dMethX, dMakeX, dTryOnly, dTryAs, wipeE, qIsE, clsVal, clsVals, PySem.W.kitAny, eq_self, true_and]
      have hcX : ∀ X : Mem, (M ++ (G ++ X))[c]? = some (.lst ((Tm.placesL 0 ps).map plcD)) := fun X => by
        rw [← List.append_assoc, getL (List.getElem?_eq_some_iff.mp hc).1]; exact hc
      have hpl : (Tm.placesL 0 ps).length = Tm.sizes ps := Tm.placesL_len 0 ps fun t _ => t.places_len
      have htl := t.places_len
      have hss : Tm.sizes ts = Tm.sizes ps + (t.size + Tm.sizes ss) := by rw [hps, Tm.sizes_append, Tm.sizes_cons]
      refine lcGo_ind (fun items M' acc => ∃ qs rs : List (List Nat), t.places = qs ++ rs ∧ items = rs.map plcD ∧ M' = M ++ (G ++ [MO.lst (List.map plcD t.places)]) ∧ acc = (qs.map fun p => (ps.length + 1) :: p).map plcD) ?_ ?_ _ _ _ ⟨[], t.places, rfl, rfl, rfl, rfl⟩
      · rintro x rest M' acc ⟨qs, rs, hq, hi, rfl, rfl⟩ ih2
        refine ⟨by rw [getK rfl, getK0 rfl]; rfl, ?_⟩
        cases rs with
        | nil => cases hi
        | cons p rs =>
        rw [List.map_cons] at hi
        injection hi with hx hr
        subst hx hr
        have hpd : plcD p = .tup (p.map fun k => D.int (k : Nat)) := rfl
        have hql := congrArg List.length hq
        rw [List.length_append, List.length_cons] at hql
        rw [hpd]
        try simp only [dSeq, dAsg, dgName, dgTup, dgCons, dgNil, dgSub, dRet, dRetN, dIfS, dDrop, dNext, dBreak, dCont, dAug, dVar, dC, dBin, dTest, dChain, dTru, dNotT, dAndT, dOrT, dAndV, dOrV, dNotV, dIf, dNil, dCons, dTup, dLst, dNewDict, dNeg, dCB, dBM, dBM0, dCall, dYes,   dSl, dNoPart, dPart, qSl, dBack, qBack, dFor, dISeq, dIRng1, dIRng2, dIZip, dLc, dDc,   qAdd, qInt, qInt0, qSub, qMul, qDiv, qMod, qPow, qLt, qLe, qGt, qGe, qIs, qIsNot, qIx, qLen, qAbs, qMax, qMin, qSum, qAll, qAny, qInt_, qStr_, qList_, qTuple_, qDict_, qIsi, qSet, iAdd, iSub, iMul, iDiv, iMod,   mAppend, mExtend, mPop, truD, tyN, isTy, seqD, lstD, keyD, isNonD,   kit_ii, kit_bi, kit_si, kit_ti, kit_li, kit_di, kit_ni, kit_ib, kit_bb, kit_sb, kit_tb, kit_lb, kit_nb, kit_is, kit_ss, kit_ts, kit_ls, kit_ns, kit_it, kit_st, kit_tt, kit_lt, kit_nt, kit_il, kit_tl, kit_ll, kit_dl, kit_nl, kit_dd, kit_nd, kit_ld,   startD, wipeD, List.map_cons, List.map_nil, List.length_cons, List.length_nil, Nat.reduceAdd, Nat.reduceSub, List.replicate_succ, List.replicate_zero, List.cons_append, List.nil_append, List.getElem?_cons_zero, List.getElem?_cons_succ, List.set_cons_zero, List.set_cons_succ,   List.length_append, List.length_set, set_get, Option.map_some, List.set_set, atI_0, atI_1, atI_2, atI_3, atI_4, atI_5, atI_6, List.append_assoc, Nat.add_assoc, getK, getK0, getL, setK, setK0, setL, List.length_map, mJoin, mIndex, mCount, mGet, strsOf, intsOf, blsOf, Option.bind_some, intsD_map, strsD_map, blsD_map, Option.isSome_some, szl, Nat.reduceLeDiff, qEq_ii, qNe_ii, Bool.not_true, Bool.not_false, decT, decF, dDelT, dDisp, dPairs, dFld, dFldS, dMeth, dMake, dIEnum, dAugK, dNever, dListRev, dListRg1, dPar, dListZip, dForD, mSetd, dRaise, dCallX, dMethX, dMakeX, dTryOnly, dTryAs, wipeE, qIsE, clsVal, clsVals, PySem.W.kitAny, eq_self, true_and]
        have hpp := Tm.place_len p (t := t) (by rw [hq]; simp)
        have := t.deep_size
        refine ⟨by omega, by omega, ih2 _ _ ⟨qs ++ [p], rs, by rw [hq, List.append_assoc]; rfl, rfl, rfl, ?_⟩⟩
        rw [List.map_append, List.map_append]
        congr 1
        show _ = [plcD ((ps.length + 1) :: p)]
        rw [plc_cons, show (((ps.length + 1 : Nat) : Int)) = 1 + (ps.length : Int) by omega]
      · rintro M' acc ⟨qs, rs, hq, hi, rfl, rfl⟩
        have hrn : rs = [] := by cases rs with
          | nil => rfl
          | cons _ _ => cases hi
        subst hrn
        rw [List.append_nil] at hq
        refine ⟨by rw [getK rfl, getK0 rfl]; rfl, ?_⟩
        try simp only [dSeq, dAsg, dgName, dgTup, dgCons, dgNil, dgSub, dRet, dRetN, dIfS, dDrop, dNext, dBreak, dCont, dAug, dVar, dC, dBin, dTest, dChain, dTru, dNotT, dAndT, dOrT, dAndV, dOrV, dNotV, dIf, dNil, dCons, dTup, dLst, dNewDict, dNeg, dCB, dBM, dBM0, dCall, dYes,   dSl, dNoPart, dPart, qSl, dBack, qBack, dFor, dISeq, dIRng1, dIRng2, dIZip, dLc, dDc,   qAdd, qInt, qInt0, qSub, qMul, qDiv, qMod, qPow, qLt, qLe, qGt, qGe, qIs, qIsNot, qIx, qLen, qAbs, qMax, qMin, qSum, qAll, qAny, qInt_, qStr_, qList_, qTuple_, qDict_, qIsi, qSet, iAdd, iSub, iMul, iDiv, iMod,   mAppend, mExtend, mPop, truD, tyN, isTy, seqD, lstD, keyD, isNonD,   kit_ii, kit_bi, kit_si, kit_ti, kit_li, kit_di, kit_ni, kit_ib, kit_bb, kit_sb, kit_tb, kit_lb, kit_nb, kit_is, kit_ss, kit_ts, kit_ls, kit_ns, kit_it, kit_st, kit_tt, kit_lt, kit_nt, kit_il, kit_tl, kit_ll, kit_dl, kit_nl, kit_dd, kit_nd, kit_ld,   startD, wipeD, List.map_cons, List.map_nil, List.length_cons, List.length_nil, Nat.reduceAdd, Nat.reduceSub, List.replicate_succ, List.replicate_zero, List.cons_append, List.nil_append, List.getElem?_cons_zero, List.getElem?_cons_succ, List.set_cons_zero, List.set_cons_succ,   List.length_append, List.length_set, set_get, Option.map_some, List.set_set, atI_0, atI_1, atI_2, atI_3, atI_4, atI_5, atI_6, List.append_assoc, Nat.add_assoc, getK, getK0, getL, setK, setK0, setL, List.length_map, mJoin, mIndex, mCount, mGet, strsOf, intsOf, blsOf, Option.bind_some, intsD_map, strsD_map, blsD_map, Option.isSome_some, szl, Nat.reduceLeDiff, qEq_ii, qNe_ii, Bool.not_true, Bool.not_false, decT, decF, dDelT, dDisp, dPairs, dFld, dFldS, dMeth, dMake, dIEnum, dAugK, dNever, dListRev, dListRg1, dPar, dListZip, dForD, mSetd, dRaise, dCallX, dMethX, dMakeX, dTryOnly, dTryAs, wipeE, qIsE, clsVal, clsVals, PySem.W.kitAny, eq_self, true_and, hcX]
        have hql := congrArg List.length hq
        refine ⟨by omega, ih' _ _ ⟨ps ++ [t], ss, G ++ [MO.lst (List.map plcD t.places), MO.lst ((qs.map fun p => (ps.length + 1) :: p).map plcD), MO.lst ((Tm.placesL 0 ps).map plcD ++ (qs.map fun p => (ps.length + 1) :: p).map plcD)], M.length + (G.length + 2), _, _, by rw [hps, List.append_assoc]; rfl, ?_, rfl, ?_, by omega, ?_⟩⟩
        · rw [List.length_append, List.length_singleton, show 1 + ((ps.length : Nat) : Int) + 1 = 1 + ((ps.length + 1 : Nat) : Int) by omega]
        · simp
        · rw [getK rfl, getK rfl, Tm.placesL_append, Tm.placesL_cons, Tm.placesL_nil, List.append_nil, List.map_append, hq]
          simp
    · rintro r M' ⟨ps, ss, G, c, u, v, hps, hi, rfl, rfl, hcl, hc⟩
      have hsn : ss = [] := by cases ss with
        | nil => rfl
        | cons _ _ => rw [List.length_cons, rngD_succ] at hi; cases hi
      subst hsn
      rw [List.append_nil] at hps
      subst hps
      refine ⟨trivial, ?_⟩
      have hcX : ∀ X : Mem, (M ++ (G ++ X))[c]? = some (.lst ((Tm.placesL 0 ts).map plcD)) := fun X => by
        rw [← List.append_assoc, getL (List.getElem?_eq_some_iff.mp hc).1]; exact hc
      have hpl : (Tm.placesL 0 ts).length = Tm.sizes ts := Tm.placesL_len 0 ts fun t _ => t.places_len
      try simp only [dSeq, dAsg, dgName, dgTup, dgCons, dgNil, dgSub, dRet, dRetN, dIfS, dDrop, dNext, dBreak, dCont, dAug, dVar, dC, dBin, dTest, dChain, dTru, dNotT, dAndT, dOrT, dAndV, dOrV, dNotV, dIf, dNil, dCons, dTup, dLst, dNewDict, dNeg, dCB, dBM, dBM0, dCall, dYes,   dSl, dNoPart, dPart, qSl, dBack, qBack, dFor, dISeq, dIRng1, dIRng2, dIZip, dLc, dDc,   qAdd, qInt, qInt0, qSub, qMul, qDiv, qMod, qPow, qLt, qLe, qGt, qGe, qIs, qIsNot, qIx, qLen, qAbs, qMax, qMin, qSum, qAll, qAny, qInt_, qStr_, qList_, qTuple_, qDict_, qIsi, qSet, iAdd, iSub, iMul, iDiv, iMod,   mAppend, mExtend, mPop, truD, tyN, isTy, seqD, lstD, keyD, isNonD,   kit_ii, kit_bi, kit_si, kit_ti, kit_li, kit_di, kit_ni, kit_ib, kit_bb, kit_sb, kit_tb, kit_lb, kit_nb, kit_is, kit_ss, kit_ts, kit_ls, kit_ns, kit_it, kit_st, kit_tt, kit_lt, kit_nt, kit_il, kit_tl, kit_ll, kit_dl, kit_nl, kit_dd, kit_nd, kit_ld,   startD, wipeD, List.map_cons, List.map_nil, List.length_cons, List.length_nil, Nat.reduceAdd, Nat.reduceSub, List.replicate_succ, List.replicate_zero, List.cons_append, List.nil_append, List.getElem?_cons_zero, List.getElem?_cons_succ, List.set_cons_zero, List.set_cons_succ,   List.length_append, List.length_set, set_get, Option.map_some, List.set_set, atI_0, atI_1, atI_2, atI_3, atI_4, atI_5, atI_6, List.append_assoc, Nat.add_assoc, getK, getK0, getL, setK, setK0, setL, List.length_map, mJoin, mIndex, mCount, mGet, strsOf, intsOf, blsOf, Option.bind_some, intsD_map, strsD_map, blsD_map, Option.isSome_some, szl, Nat.reduceLeDiff, qEq_ii, qNe_ii, Bool.not_true, Bool.not_false, decT, decF, dDelT, dDisp, dPairs, dFld, dFldS, dMeth, dMake, dIEnum, dAugK, dNever, dListRev, dListRg1, dPar, dListZip, dForD, mSetd, dRaise, dCallX, dMethX, dMakeX, dTryOnly, dTryAs, wipeE, qIsE, clsVal, clsVals, PySem.W.kitAny, eq_self, true_and, hcX]
      rw [List.map_append] at q
      refine ⟨by omega, Done.list hM (takeK rfl) (by omega) (by rw [getK rfl, getK rfl]; rfl) ?_ q⟩
      have := okDs_plc M.length (Tm.placesL 0 ts ++ [[]])
      rw [List.map_append] at this
      exact this
end
section
variable {P : Program} {w : World} {K : PySem.W.Frag} {mg : Str → Option Value} {base : Heap}
def sp_put (n : Nat) : DSp := fun ds M Q _ => ∃ (t new v : Tm) (p : List Nat), ds = [t.d, plcD p, new.d] ∧ t.at_ p = some v ∧ p.length < n ∧ t.size ≤ 1000 ∧ p.length ≤ 300 ∧ Q (Tm.put new p t).d M
theorem fn_put (T : Top K mg) (n : Nat) : DFn P w K mg base CX0 n "_law_put" ["_law_term_here", "_law_place", "_law_new"] (sp_put n) := by
  induction n with
  | zero =>
    obtain ⟨fd, F⟩ := T.d__law_put
    refine (DFn.nothing F T.g__law_put (FunD.bindsN F fun _ _ _ _ _ _ us hl => match us, hl with | [_, _, _], _ => rfl)).imp ?_
    rintro ds M Q E ⟨t, new, v, p, rfl, _, h, _⟩
    omega
  | succ n ih =>
  have F__law_put := ih
  obtain ⟨fd, F⟩ := T.d__law_put
  have sc := sc__law_put
  refine DFn.ofD (k := n) F T.g__law_put (FunD.bindsN F fun _ _ _ _ _ _ us hl => match us, hl with | [_, _, _], _ => rfl) sc ?len ⟨_, fun cdv A outer s H E m0 hr => (
      (dss_cons (ds_if (dt_cmp (dop_eq hr) (de_var 1) (de_tup da_nil)) (dss_one (ds_ret (de_var 2))) dss_nil)
      (dss_cons (ds_set 3 sc.nd (de_call F__law_put (hr.mono (by omega)) pass0 (da_cons (de_ix hr (de_var 0) (de_ix hr (de_var 1) de_int)) (da_cons (de_slice (de_var 1) (do_some de_int) do_none) (da_cons (de_var 2) da_nil)))))
      (dss_one (ds_ret (de_bin dop_add (de_bin dop_add (de_slice (de_var 0) do_none (do_some (de_ix hr (de_var 1) de_int))) (de_tup (da_cons (de_var 3) da_nil))) (de_slice (de_var 0) (do_some (de_bin dop_add (de_ix hr (de_var 1) de_int) de_int)) do_none))))))), ?_⟩
  case len =>
    rintro ds M Q E ⟨t, new, v, p, rfl, _⟩
    rfl
  rintro ds M Qd Ed ⟨t, new, v, p, rfl, hv, hp, hsz, hp3, q⟩ hM
  cases p with
  | nil =>
    rw [Tm.put_nil] at q
    rw [show plcD [] = D.tup [] from rfl]
    try simp only [dSeq, dAsg, dgName, dgTup, dgCons, dgNil, dgSub, dRet, dRetN, dIfS, dDrop, dNext, dBreak, dCont, dAug, dVar, dC, dBin, dTest, dChain, dTru, dNotT, dAndT, dOrT, dAndV, dOrV, dNotV, dIf, dNil, dCons, dTup, dLst, dNewDict, dNeg, dCB, dBM, dBM0, dCall, dYes,   dSl, dNoPart, dPart, qSl, dBack, qBack, dFor, dISeq, dIRng1, dIRng2, dIZip, dLc, dDc,   qAdd, qInt, qInt0, qSub, qMul, qDiv, qMod, qPow, qLt, qLe, qGt, qGe, qIs, qIsNot, qIx, qLen, qAbs, qMax, qMin, qSum, qAll, qAny, qInt_, qStr_, qList_, qTuple_, qDict_, qIsi, qSet, iAdd, iSub, iMul, iDiv, iMod,   mAppend, mExtend, mPop, truD, tyN, isTy, seqD, lstD, keyD, isNonD,   kit_ii, kit_bi, kit_si, kit_ti, kit_li, kit_di, kit_ni, kit_ib, kit_bb, kit_sb, kit_tb, kit_lb, kit_nb, kit_is, kit_ss, kit_ts, kit_ls, kit_ns, kit_it, kit_st, kit_tt, kit_lt, kit_nt, kit_il, kit_tl, kit_ll, kit_dl, kit_nl, kit_dd, kit_nd, kit_ld,   startD, wipeD, List.map_cons, List.map_nil, List.length_cons, List.length_nil, Nat.reduceAdd, Nat.reduceSub, List.replicate_succ, List.replicate_zero, List.cons_append, List.nil_append, List.getElem?_cons_zero, List.getElem?_cons_succ, List.set_cons_zero, List.set_cons_succ,   List.length_append, List.length_set, set_get, Option.map_some, List.set_set, atI_0, atI_1, atI_2, atI_3, atI_4, atI_5, atI_6, List.append_assoc, Nat.add_assoc, getK, getK0, getL, setK, setK0, setL, List.length_map, mJoin, mIndex, mCount, mGet, strsOf, intsOf, blsOf, Option.bind_some, intsD_map, strsD_map, blsD_map, Option.isSome_some, szl, Nat.reduceLeDiff, qEq_ii, qNe_ii, Bool.not_true, Bool.not_false, decT, decF, dDelT, dDisp, dPairs, dFld, dFldS, dMeth, dMake, dIEnum, dAugK, dNever, dListRev, dListRg1, dPar, dListZip, dForD, mSetd, dRaise, dCallX, dMethX, dMakeX, dTryOnly, dTryAs, wipeE, qIsE, clsVal, clsVals, PySem.W.kitAny, eq_self, true_and]
    refine qEq_pl (by rfl) (by rfl) (.inl (by show (1 : Nat) ≤ 199; omega)) fun b hb => ?_
    have hbt : b = true := hb.mpr rfl
    subst hbt
    try simp only [dSeq, dAsg, dgName, dgTup, dgCons, dgNil, dgSub, dRet, dRetN, dIfS, dDrop, dNext, dBreak, dCont, dAug, dVar, dC, dBin, dTest, dChain, dTru, dNotT, dAndT, dOrT, dAndV, dOrV, dNotV, dIf, dNil, dCons, dTup, dLst, dNewDict, dNeg, dCB, dBM, dBM0, dCall, dYes,   dSl, dNoPart, dPart, qSl, dBack, qBack, dFor, dISeq, dIRng1, dIRng2, dIZip, dLc, dDc,   qAdd, qInt, qInt0, qSub, qMul, qDiv, qMod, qPow, qLt, qLe, qGt, qGe, qIs, qIsNot, qIx, qLen, qAbs, qMax, qMin, qSum, qAll, qAny, qInt_, qStr_, qList_, qTuple_, qDict_, qIsi, qSet, iAdd, iSub, iMul, iDiv, iMod,   mAppend, mExtend, mPop, truD, tyN, isTy, seqD, lstD, keyD, isNonD,   kit_ii, kit_bi, kit_si, kit_ti, kit_li, kit_di, kit_ni, kit_ib, kit_bb, kit_sb, kit_tb, kit_lb, kit_nb, kit_is, kit_ss, kit_ts, kit_ls, kit_ns, kit_it, kit_st, kit_tt, kit_lt, kit_nt, kit_il, kit_tl, kit_ll, kit_dl, kit_nl, kit_dd, kit_nd, kit_ld,   startD, wipeD, List.map_cons, List.map_nil, List.length_cons, List.length_nil, Nat.reduceAdd, Nat.reduceSub, List.replicate_succ, List.replicate_zero, List.cons_append, List.nil_append, List.getElem?_cons_zero, List.getElem?_cons_succ, List.set_cons_zero, List.set_cons_succ,   List.length_append, List.length_set, set_get, Option.map_some, List.set_set, atI_0, atI_1, atI_2, atI_3, atI_4, atI_5, atI_6, List.append_assoc, Nat.add_assoc, getK, getK0, getL, setK, setK0, setL, List.length_map, mJoin, mIndex, mCount, mGet, strsOf, intsOf, blsOf, Option.bind_some, intsD_map, strsD_map, blsD_map, Option.isSome_some, szl, Nat.reduceLeDiff, qEq_ii, qNe_ii, Bool.not_true, Bool.not_false, decT, decF, dDelT, dDisp, dPairs, dFld, dFldS, dMeth, dMake, dIEnum, dAugK, dNever, dListRev, dListRg1, dPar, dListZip, dForD, mSetd, dRaise, dCallX, dMethX, dMakeX, dTryOnly, dTryAs, wipeE, qIsE, clsVal, clsVals, PySem.W.kitAny, eq_self, true_and]
    exact .same q
  | cons k p =>
    obtain ⟨f, ts, u, rfl, hk, hu, hv⟩ := Tm.at_cons hv
    rw [Tm.put_app hu] at q
    rw [plc_cons, Tm.d_app]
    rw [Tm.size_app] at hsz
    have hpl : pls (p.map fun k => D.int (k : Nat)) = true := by
      rw [pls_iff]
      intro d hd
      obtain ⟨i, _, rfl⟩ := List.mem_map.mp hd
      rfl
    try simp only [dSeq, dAsg, dgName, dgTup, dgCons, dgNil, dgSub, dRet, dRetN, dIfS, dDrop, dNext, dBreak, dCont, dAug, dVar, dC, dBin, dTest, dChain, dTru, dNotT, dAndT, dOrT, dAndV, dOrV, dNotV, dIf, dNil, dCons, dTup, dLst, dNewDict, dNeg, dCB, dBM, dBM0, dCall, dYes,   dSl, dNoPart, dPart, qSl, dBack, qBack, dFor, dISeq, dIRng1, dIRng2, dIZip, dLc, dDc,   qAdd, qInt, qInt0, qSub, qMul, qDiv, qMod, qPow, qLt, qLe, qGt, qGe, qIs, qIsNot, qIx, qLen, qAbs, qMax, qMin, qSum, qAll, qAny, qInt_, qStr_, qList_, qTuple_, qDict_, qIsi, qSet, iAdd, iSub, iMul, iDiv, iMod,   mAppend, mExtend, mPop, truD, tyN, isTy, seqD, lstD, keyD, isNonD,   kit_ii, kit_bi, kit_si, kit_ti, kit_li, kit_di, kit_ni, kit_ib, kit_bb, kit_sb, kit_tb, kit_lb, kit_nb, kit_is, kit_ss, kit_ts, kit_ls, kit_ns, kit_it, kit_st, kit_tt, kit_lt, kit_nt, kit_il, kit_tl, kit_ll, kit_dl, kit_nl, kit_dd, kit_nd, kit_ld,   startD, wipeD, List.map_cons, List.map_nil, List.length_cons, List.length_nil, Nat.reduceAdd, Nat.reduceSub, List.replicate_succ, List.replicate_zero, List.cons_append, List.nil_append, List.getElem?_cons_zero, List.getElem?_cons_succ, List.set_cons_zero, List.set_cons_succ,   List.length_append, List.length_set, set_get, Option.map_some, List.set_set, atI_0, atI_1, atI_2, atI_3, atI_4, atI_5, atI_6, List.append_assoc, Nat.add_assoc, getK, getK0, getL, setK, setK0, setL, List.length_map, mJoin, mIndex, mCount, mGet, strsOf, intsOf, blsOf, Option.bind_some, intsD_map, strsD_map, blsD_map, Option.isSome_some, szl, Nat.reduceLeDiff, qEq_ii, qNe_ii, Bool.not_true, Bool.not_false, decT, decF, dDelT, dDisp, dPairs, dFld, dFldS, dMeth, dMake, dIEnum, dAugK, dNever, dListRev, dListRg1, dPar, dListZip, dForD, mSetd, dRaise, dCallX, dMethX, dMakeX, dTryOnly, dTryAs, wipeE, qIsE, clsVal, clsVals, PySem.W.kitAny, eq_self, true_and]
    refine qEq_pl (by unfold pl pls; rw [hpl]; rfl) (by rfl) (.inr (by show (1 : Nat) ≤ 199; omega)) fun b hb => ?_
    have hbf : b = false := by
      cases b with
      | false => rfl
      | true =>
        have := hb.mp rfl
        cases this
    subst hbf
    have hkl := (List.getElem?_eq_some_iff.mp hu).1
    have hl0 := Tm.len_sizes ts
    have f1 : atI (D.str f :: List.map Tm.d ts) ((k : Nat) : Int) = some u.d := by
      refine atI_nat ?_
      obtain ⟨j, rfl⟩ : ∃ j, k = j + 1 := ⟨k - 1, by omega⟩
      rw [List.getElem?_cons_succ, List.getElem?_map]
      rw [Nat.add_sub_cancel] at hu
      rw [hu]
      rfl
    try simp only [dSeq, dAsg, dgName, dgTup, dgCons, dgNil, dgSub, dRet, dRetN, dIfS, dDrop, dNext, dBreak, dCont, dAug, dVar, dC, dBin, dTest, dChain, dTru, dNotT, dAndT, dOrT, dAndV, dOrV, dNotV, dIf, dNil, dCons, dTup, dLst, dNewDict, dNeg, dCB, dBM, dBM0, dCall, dYes,   dSl, dNoPart, dPart, qSl, dBack, qBack, dFor, dISeq, dIRng1, dIRng2, dIZip, dLc, dDc,   qAdd, qInt, qInt0, qSub, qMul, qDiv, qMod, qPow, qLt, qLe, qGt, qGe, qIs, qIsNot, qIx, qLen, qAbs, qMax, qMin, qSum, qAll, qAny, qInt_, qStr_, qList_, qTuple_, qDict_, qIsi, qSet, iAdd, iSub, iMul, iDiv, iMod,   mAppend, mExtend, mPop, truD, tyN, isTy, seqD, lstD, keyD, isNonD,   kit_ii, kit_bi, kit_si, kit_ti, kit_li, kit_di, kit_ni, kit_ib, kit_bb, kit_sb, kit_tb, kit_lb, kit_nb, kit_is, kit_ss, kit_ts, kit_ls, kit_ns, kit_it, kit_st, kit_tt, kit_lt, kit_nt, kit_il, kit_tl, kit_ll, kit_dl, kit_nl, kit_dd, kit_nd, kit_ld,   startD, wipeD, List.map_cons, List.map_nil, List.length_cons, List.length_nil, Nat.reduceAdd, Nat.reduceSub, List.replicate_succ, List.replicate_zero, List.cons_append, List.nil_append, List.getElem?_cons_zero, List.getElem?_cons_succ, List.set_cons_zero, List.set_cons_succ,   List.length_append, List.length_set, set_get, Option.map_some, List.set_set, atI_0, atI_1, atI_2, atI_3, atI_4, atI_5, atI_6, List.append_assoc, Nat.add_assoc, getK, getK0, getL, setK, setK0, setL, List.length_map, mJoin, mIndex, mCount, mGet, strsOf, intsOf, blsOf, Option.bind_some, intsD_map, strsD_map, blsD_map, Option.isSome_some, szl, Nat.reduceLeDiff, qEq_ii, qNe_ii, Bool.not_true, Bool.not_false, decT, decF, dDelT, dDisp, dPairs, dFld, dFldS, dMeth, dMake, dIEnum, dAugK, dNever, dListRev, dListRg1, dPar, dListZip, dForD, mSetd, dRaise, dCallX, dMethX, dMakeX, dTryOnly, dTryAs, wipeE, qIsE, clsVal, clsVals, PySem.W.kitAny, eq_self, true_and, f1]
    rw [cut_1]
    simp only [List.length_cons] at hp hp3
    have hus := Tm.size_mem (List.mem_of_getElem? hu)
    refine ⟨u, new, v, p, rfl, hv, by omega, by omega, by omega, ?_⟩
    try simp only [dSeq, dAsg, dgName, dgTup, dgCons, dgNil, dgSub, dRet, dRetN, dIfS, dDrop, dNext, dBreak, dCont, dAug, dVar, dC, dBin, dTest, dChain, dTru, dNotT, dAndT, dOrT, dAndV, dOrV, dNotV, dIf, dNil, dCons, dTup, dLst, dNewDict, dNeg, dCB, dBM, dBM0, dCall, dYes,   dSl, dNoPart, dPart, qSl, dBack, qBack, dFor, dISeq, dIRng1, dIRng2, dIZip, dLc, dDc,   qAdd, qInt, qInt0, qSub, qMul, qDiv, qMod, qPow, qLt, qLe, qGt, qGe, qIs, qIsNot, qIx, qLen, qAbs, qMax, qMin, qSum, qAll, qAny, qInt_, qStr_, qList_, qTuple_, qDict_, qIsi, qSet, iAdd, iSub, iMul, iDiv, iMod,   mAppend, mExtend, mPop, truD, tyN, isTy, seqD, lstD, keyD, isNonD,   kit_ii, kit_bi, kit_si, kit_ti, kit_li, kit_di, kit_ni, kit_ib, kit_bb, kit_sb, kit_tb, kit_lb, kit_nb, kit_is, kit_ss, kit_ts, kit_ls, kit_ns, kit_it, kit_st, kit_tt, kit_lt, kit_nt, kit_il, kit_tl, kit_ll, kit_dl, kit_nl, kit_dd, kit_nd, kit_ld,   startD, wipeD, List.map_cons, List.map_nil, List.length_cons, List.length_nil, Nat.reduceAdd, Nat.reduceSub, List.replicate_succ, List.replicate_zero, List.cons_append, List.nil_append, List.getElem?_cons_zero, List.getElem?_cons_succ, List.set_cons_zero, List.set_cons_succ,   List.length_append, List.length_set, set_get, Option.map_some, List.set_set, atI_0, atI_1, atI_2, atI_3, atI_4, atI_5, atI_6, List.append_assoc, Nat.add_assoc, getK, getK0, getL, setK, setK0, setL, List.length_map, mJoin, mIndex, mCount, mGet, strsOf, intsOf, blsOf, Option.bind_some, intsD_map, strsD_map, blsD_map, Option.isSome_some, szl, Nat.reduceLeDiff, qEq_ii, qNe_ii, Bool.not_true, Bool.not_false, decT, decF, dDelT, dDisp, dPairs, dFld, dFldS, dMeth, dMake, dIEnum, dAugK, dNever, dListRev, dListRg1, dPar, dListZip, dForD, mSetd, dRaise, dCallX, dMethX, dMakeX, dTryOnly, dTryAs, wipeE, qIsE, clsVal, clsVals, PySem.W.kitAny, eq_self, true_and]
    rw [show ((k : Nat) : Int) + 1 = ((k + 1 : Nat) : Int) by omega, cut_to, cut_from]
    have hlen : (D.str f :: List.map Tm.d ts).length = ts.length + 1 := by simp
    refine ⟨by rw [List.length_take]; omega, by rw [List.length_take, List.length_drop]; omega, ?_⟩
    obtain ⟨j, rfl⟩ : ∃ j, k = j + 1 := ⟨k - 1, by omega⟩
    have e : List.take (j + 1) (D.str f :: List.map Tm.d ts) ++ (Tm.put new p u).d :: List.drop (j + 1 + 1) (D.str f :: List.map Tm.d ts) = D.str f :: (ts.set j (Tm.put new p u)).map Tm.d := by
      rw [List.map_set, List.take_succ_cons, List.drop_succ_cons, List.cons_append]
      congr 1
      rw [List.set_eq_take_append_cons_drop, if_pos (by rw [List.length_map]; omega)]
    rw [e, ← Tm.d_app]
    exact .same q
end
section
variable {P : Program} {w : World} {K : PySem.W.Frag} {mg : Str → Option Value} {base : Heap}
def sp_two : DSp := fun ds M Q _ => ∃ (l a b : Nat) (ss : List Sg) (vs : List Int), ds = [.loc l, .loc a, .loc b] ∧ Dice M l ∧ l ≠ a ∧ l ≠ b ∧ M[a]? = some (.lst (ss.map Sg.d)) ∧ M[b]? = some (.lst (vs.map D.int)) ∧ GoodSigns ss ∧ vs.length ≤ 4 ∧
  ∀ (o : MO) (s t : Tm), DiceO o → Over ss vs s → Over ss vs t → s.deep ≤ 5 → t.deep ≤ 5 → s.size ≤ 10 → t.size ≤ 10 → Q (.tup [s.d, t.d]) (M.set l o)
theorem fn_two (T : Top K mg) : DFn P w K mg base CX0 7 "_law_two" ["_law_d", "_law_signs_here", "_law_free_here"] sp_two := by
  have F__law_off := fn_off (P := P) (w := w) (base := base) T
  have F__law_term := fn_term (P := P) (w := w) (base := base) T 3
  have F__law_places := fn_places (P := P) (w := w) (base := base) T 6
  have F__law_put := fn_put (P := P) (w := w) (base := base) T 6
  obtain ⟨fd, F⟩ := T.d__law_two
  have sc := sc__law_two
  refine DFn.ofD (k := 6) F T.g__law_two (FunD.bindsN F fun _ _ _ _ _ _ us hl => match us, hl with | [_, _, _], _ => rfl) sc ?len ⟨_, fun cdv A outer s H E m0 hr => (
      (dss_cons (ds_set 3 sc.nd (de_bin dop_sub de_int (de_ct T.n_int dc_int b_int (da_cons (de_cmp dop_gt (de_cb T.n_max (dc_max rfl) b_max (da_cons (de_lc 8 (own := [("_law_sign", 8)]) rfl sc.nd (di_seq (de_var 1)) (show blkC ["_law_d", "_law_signs_here", "_law_free_here", "_law_deep", "_law_one", "_law_other", "_law_way", "_law_ways", "_law_sign"] (defScope s__law_two) _ [("_law_sign", 8)] = true by decide +kernel) (by decide) (fun _ _ _ _ _ => pg_name (i := 8) sc.nd rfl (by first | exact Or.inl rfl | exact Or.inr rfl)) (fun _ _ _ _ _ => dts_nil) (fun _ _ _ _ _ => (de_ix hr (de_var 8) de_int))) da_nil)) de_int) da_nil))))
      (dss_cons (ds_set 4 sc.nd (de_call F__law_term (hr.mono (by omega)) pass0 (da_cons (de_var 0) (da_cons (de_var 1) (da_cons (de_var 3) (da_cons (de_var 2) da_nil))))))
      (dss_cons (ds_set 5 sc.nd (de_call F__law_term (hr.mono (by omega)) pass0 (da_cons (de_var 0) (da_cons (de_var 1) (da_cons (de_var 3) (da_cons (de_var 2) da_nil))))))
      (dss_cons (ds_set 6 sc.nd (de_call F__law_off (hr.mono (by omega)) pass0 (da_cons (de_var 0) (da_cons de_int da_nil))))
      (dss_cons (ds_if (dt_cmp dop_lt (de_var 6) de_int) (dss_cons (ds_set 7 sc.nd (de_call F__law_places (hr.mono (by omega)) pass0 (da_cons (de_var 4) da_nil)))
      (dss_one (ds_set 5 sc.nd (de_call F__law_put (hr.mono (by omega)) pass0 (da_cons (de_var 4) (da_cons (de_ix hr (de_var 7) (de_call F__law_off (hr.mono (by omega)) pass0 (da_cons (de_var 0) (da_cons (de_cb T.n_len dc_len b_len (da_cons (de_var 7) da_nil)) da_nil)))) (da_cons (de_call F__law_term (hr.mono (by omega)) pass0 (da_cons (de_var 0) (da_cons (de_var 1) (da_cons (de_bin dop_sub de_int (de_bin dop_fdiv (de_var 6) de_int)) (da_cons (de_var 2) da_nil))))) da_nil))))))) dss_nil)
      (dss_one (ds_ret (de_tup (da_cons (de_var 4) (da_cons (de_var 5) da_nil))))))))))), ?_⟩
  case len =>
    rintro ds M Q E ⟨l, a, b, ss, vs, rfl, _⟩
    rfl
  rintro ds M Qd Ed ⟨l, a, b, ss, vs, rfl, hd, hla, hlb, ha, hb, hss, hvs, q⟩ hM
  have hlt := hd.lt
  have ha' := (List.getElem?_eq_some_iff.mp ha).1
  have hb' := (List.getElem?_eq_some_iff.mp hb).1
  have hget : ∀ (o : MO) (G : Mem), (M.set l o ++ G)[a]? = some (.lst (ss.map Sg.d)) ∧ (M.set l o ++ G)[b]? = some (.lst (vs.map D.int)) := fun o G => by
    rw [getL (by simpa using ha'), getL (by simpa using hb'), List.getElem?_set_ne hla, List.getElem?_set_ne hlb]
    exact ⟨ha, hb⟩
  have hdo : ∀ (o : MO) (G : Mem), DiceO o → Dice (M.set l o ++ G) l := fun o G ho => ⟨o, by rw [getL (by simpa using hlt)]; simp [hlt], ho⟩
  obtain ⟨o0, ho0, _, hM0⟩ := hd.self
  have hlen := hss.len
  refine cut1 (W := fun r' M' => ∃ (dp A : Nat) (G : Mem), 1 ≤ dp ∧ dp ≤ 2 ∧ (∀ g ∈ ss, g.ar ≤ A) ∧ bigOf A dp ≤ 7 ∧ bigOf A 0 ≤ 3 ∧ bigOf A dp + bigOf A 1 ≤ 10 ∧ r' = [some (D.loc l), some (D.loc a), some (D.loc b), some (.int dp), none, none, none, none, none] ∧ M' = M.set l o0 ++ G) ?_ fun R hR => ?_
  · rintro r' M' ⟨dp, A, G, hd1, hd2, hA, hA1, hA2, hA3, rfl, rfl⟩
    try simp only [dSeq, dAsg, dgName, dgTup, dgCons, dgNil, dgSub, dRet, dRetN, dIfS, dDrop, dNext, dBreak, dCont, dAug, dVar, dC, dBin, dTest, dChain, dTru, dNotT, dAndT, dOrT, dAndV, dOrV, dNotV, dIf, dNil, dCons, dTup, dLst, dNewDict, dNeg, dCB, dBM, dBM0, dCall, dYes,   dSl, dNoPart, dPart, qSl, dBack, qBack, dFor, dISeq, dIRng1, dIRng2, dIZip, dLc, dDc,   qAdd, qInt, qInt0, qSub, qMul, qDiv, qMod, qPow, qLt, qLe, qGt, qGe, qIs, qIsNot, qIx, qLen, qAbs, qMax, qMin, qSum, qAll, qAny, qInt_, qStr_, qList_, qTuple_, qDict_, qIsi, qSet, iAdd, iSub, iMul, iDiv, iMod,   mAppend, mExtend, mPop, truD, tyN, isTy, seqD, lstD, keyD, isNonD,   kit_ii, kit_bi, kit_si, kit_ti, kit_li, kit_di, kit_ni, kit_ib, kit_bb, kit_sb, kit_tb, kit_lb, kit_nb, kit_is, kit_ss, kit_ts, kit_ls, kit_ns, kit_it, kit_st, kit_tt, kit_lt, kit_nt, kit_il, kit_tl, kit_ll, kit_dl, kit_nl, kit_dd, kit_nd, kit_ld,   startD, wipeD, List.map_cons, List.map_nil, List.length_cons, List.length_nil, Nat.reduceAdd, Nat.reduceSub, List.replicate_succ, List.replicate_zero, List.cons_append, List.nil_append, List.getElem?_cons_zero, List.getElem?_cons_succ, List.set_cons_zero, List.set_cons_succ,   List.length_append, List.length_set, set_get, Option.map_some, List.set_set, atI_0, atI_1, atI_2, atI_3, atI_4, atI_5, atI_6, List.append_assoc, Nat.add_assoc, getK, getK0, getL, setK, setK0, setL, List.length_map, mJoin, mIndex, mCount, mGet, strsOf, intsOf, blsOf, Option.bind_some, intsD_map, strsD_map, blsD_map, Option.isSome_some, szl, Nat.reduceLeDiff, qEq_ii, qNe_ii, Bool.not_true, Bool.not_false, decT, decF, dDelT, dDisp, dPairs, dFld, dFldS, dMeth, dMake, dIEnum, dAugK, dNever, dListRev, dListRg1, dPar, dListZip, dForD, mSetd, dRaise, dCallX, dMethX, dMakeX, dTryOnly, dTryAs, wipeE, qIsE, clsVal, clsVals, PySem.W.kitAny, eq_self, true_and]
    refine ⟨l, a, b, dp, ss, vs, rfl, by omega, by decide, hdo _ _ ho0, hla, hlb, (hget _ _).1, (hget _ _).2, hss, hvs, fun o1 s ho1 hs hsd hsz => ?_⟩
    try simp only [dSeq, dAsg, dgName, dgTup, dgCons, dgNil, dgSub, dRet, dRetN, dIfS, dDrop, dNext, dBreak, dCont, dAug, dVar, dC, dBin, dTest, dChain, dTru, dNotT, dAndT, dOrT, dAndV, dOrV, dNotV, dIf, dNil, dCons, dTup, dLst, dNewDict, dNeg, dCB, dBM, dBM0, dCall, dYes,   dSl, dNoPart, dPart, qSl, dBack, qBack, dFor, dISeq, dIRng1, dIRng2, dIZip, dLc, dDc,   qAdd, qInt, qInt0, qSub, qMul, qDiv, qMod, qPow, qLt, qLe, qGt, qGe, qIs, qIsNot, qIx, qLen, qAbs, qMax, qMin, qSum, qAll, qAny, qInt_, qStr_, qList_, qTuple_, qDict_, qIsi, qSet, iAdd, iSub, iMul, iDiv, iMod,   mAppend, mExtend, mPop, truD, tyN, isTy, seqD, lstD, keyD, isNonD,   kit_ii, kit_bi, kit_si, kit_ti, kit_li, kit_di, kit_ni, kit_ib, kit_bb, kit_sb, kit_tb, kit_lb, kit_nb, kit_is, kit_ss, kit_ts, kit_ls, kit_ns, kit_it, kit_st, kit_tt, kit_lt, kit_nt, kit_il, kit_tl, kit_ll, kit_dl, kit_nl, kit_dd, kit_nd, kit_ld,   startD, wipeD, List.map_cons, List.map_nil, List.length_cons, List.length_nil, Nat.reduceAdd, Nat.reduceSub, List.replicate_succ, List.replicate_zero, List.cons_append, List.nil_append, List.getElem?_cons_zero, List.getElem?_cons_succ, List.set_cons_zero, List.set_cons_succ,   List.length_append, List.length_set, set_get, Option.map_some, List.set_set, atI_0, atI_1, atI_2, atI_3, atI_4, atI_5, atI_6, List.append_assoc, Nat.add_assoc, getK, getK0, getL, setK, setK0, setL, List.length_map, mJoin, mIndex, mCount, mGet, strsOf, intsOf, blsOf, Option.bind_some, intsD_map, strsD_map, blsD_map, Option.isSome_some, szl, Nat.reduceLeDiff, qEq_ii, qNe_ii, Bool.not_true, Bool.not_false, decT, decF, dDelT, dDisp, dPairs, dFld, dFldS, dMeth, dMake, dIEnum, dAugK, dNever, dListRev, dListRg1, dPar, dListZip, dForD, mSetd, dRaise, dCallX, dMethX, dMakeX, dTryOnly, dTryAs, wipeE, qIsE, clsVal, clsVals, PySem.W.kitAny, eq_self, true_and, hlt]
    refine ⟨l, a, b, dp, ss, vs, rfl, by omega, by decide, hdo _ _ ho1, hla, hlb, (hget _ _).1, (hget _ _).2, hss, hvs, fun o2 t ho2 ht htd htz => ?_⟩
    try simp only [dSeq, dAsg, dgName, dgTup, dgCons, dgNil, dgSub, dRet, dRetN, dIfS, dDrop, dNext, dBreak, dCont, dAug, dVar, dC, dBin, dTest, dChain, dTru, dNotT, dAndT, dOrT, dAndV, dOrV, dNotV, dIf, dNil, dCons, dTup, dLst, dNewDict, dNeg, dCB, dBM, dBM0, dCall, dYes,   dSl, dNoPart, dPart, qSl, dBack, qBack, dFor, dISeq, dIRng1, dIRng2, dIZip, dLc, dDc,   qAdd, qInt, qInt0, qSub, qMul, qDiv, qMod, qPow, qLt, qLe, qGt, qGe, qIs, qIsNot, qIx, qLen, qAbs, qMax, qMin, qSum, qAll, qAny, qInt_, qStr_, qList_, qTuple_, qDict_, qIsi, qSet, iAdd, iSub, iMul, iDiv, iMod,   mAppend, mExtend, mPop, truD, tyN, isTy, seqD, lstD, keyD, isNonD,   kit_ii, kit_bi, kit_si, kit_ti, kit_li, kit_di, kit_ni, kit_ib, kit_bb, kit_sb, kit_tb, kit_lb, kit_nb, kit_is, kit_ss, kit_ts, kit_ls, kit_ns, kit_it, kit_st, kit_tt, kit_lt, kit_nt, kit_il, kit_tl, kit_ll, kit_dl, kit_nl, kit_dd, kit_nd, kit_ld,   startD, wipeD, List.map_cons, List.map_nil, List.length_cons, List.length_nil, Nat.reduceAdd, Nat.reduceSub, List.replicate_succ, List.replicate_zero, List.cons_append, List.nil_append, List.getElem?_cons_zero, List.getElem?_cons_succ, List.set_cons_zero, List.set_cons_succ,   List.length_append, List.length_set, set_get, Option.map_some, List.set_set, atI_0, atI_1, atI_2, atI_3, atI_4, atI_5, atI_6, List.append_assoc, Nat.add_assoc, getK, getK0, getL, setK, setK0, setL, List.length_map, mJoin, mIndex, mCount, mGet, strsOf, intsOf, blsOf, Option.bind_some, intsD_map, strsD_map, blsD_map, Option.isSome_some, szl, Nat.reduceLeDiff, qEq_ii, qNe_ii, Bool.not_true, Bool.not_false, decT, decF, dDelT, dDisp, dPairs, dFld, dFldS, dMeth, dMake, dIEnum, dAugK, dNever, dListRev, dListRg1, dPar, dListZip, dForD, mSetd, dRaise, dCallX, dMethX, dMakeX, dTryOnly, dTryAs, wipeE, qIsE, clsVal, clsVals, PySem.W.kitAny, eq_self, true_and, hlt]
    refine use_off hlt ho2 (by omega) (by omega) fun way o3 h3 ho3 => ?_
    have ss85 := hsz A hA
    have ts85 := htz A hA
    try simp only [dSeq, dAsg, dgName, dgTup, dgCons, dgNil, dgSub, dRet, dRetN, dIfS, dDrop, dNext, dBreak, dCont, dAug, dVar, dC, dBin, dTest, dChain, dTru, dNotT, dAndT, dOrT, dAndV, dOrV, dNotV, dIf, dNil, dCons, dTup, dLst, dNewDict, dNeg, dCB, dBM, dBM0, dCall, dYes,   dSl, dNoPart, dPart, qSl, dBack, qBack, dFor, dISeq, dIRng1, dIRng2, dIZip, dLc, dDc,   qAdd, qInt, qInt0, qSub, qMul, qDiv, qMod, qPow, qLt, qLe, qGt, qGe, qIs, qIsNot, qIx, qLen, qAbs, qMax, qMin, qSum, qAll, qAny, qInt_, qStr_, qList_, qTuple_, qDict_, qIsi, qSet, iAdd, iSub, iMul, iDiv, iMod,   mAppend, mExtend, mPop, truD, tyN, isTy, seqD, lstD, keyD, isNonD,   kit_ii, kit_bi, kit_si, kit_ti, kit_li, kit_di, kit_ni, kit_ib, kit_bb, kit_sb, kit_tb, kit_lb, kit_nb, kit_is, kit_ss, kit_ts, kit_ls, kit_ns, kit_it, kit_st, kit_tt, kit_lt, kit_nt, kit_il, kit_tl, kit_ll, kit_dl, kit_nl, kit_dd, kit_nd, kit_ld,   startD, wipeD, List.map_cons, List.map_nil, List.length_cons, List.length_nil, Nat.reduceAdd, Nat.reduceSub, List.replicate_succ, List.replicate_zero, List.cons_append, List.nil_append, List.getElem?_cons_zero, List.getElem?_cons_succ, List.set_cons_zero, List.set_cons_succ,   List.length_append, List.length_set, set_get, Option.map_some, List.set_set, atI_0, atI_1, atI_2, atI_3, atI_4, atI_5, atI_6, List.append_assoc, Nat.add_assoc, getK, getK0, getL, setK, setK0, setL, List.length_map, mJoin, mIndex, mCount, mGet, strsOf, intsOf, blsOf, Option.bind_some, intsD_map, strsD_map, blsD_map, Option.isSome_some, szl, Nat.reduceLeDiff, qEq_ii, qNe_ii, Bool.not_true, Bool.not_false, decT, decF, dDelT, dDisp, dPairs, dFld, dFldS, dMeth, dMake, dIEnum, dAugK, dNever, dListRev, dListRg1, dPar, dListZip, dForD, mSetd, dRaise, dCallX, dMethX, dMakeX, dTryOnly, dTryAs, wipeE, qIsE, clsVal, clsVals, PySem.W.kitAny, eq_self, true_and, hlt]
    by_cases hw : (way : Int) < 3
    · rw [decide_eq_true hw]
      try simp only [dSeq, dAsg, dgName, dgTup, dgCons, dgNil, dgSub, dRet, dRetN, dIfS, dDrop, dNext, dBreak, dCont, dAug, dVar, dC, dBin, dTest, dChain, dTru, dNotT, dAndT, dOrT, dAndV, dOrV, dNotV, dIf, dNil, dCons, dTup, dLst, dNewDict, dNeg, dCB, dBM, dBM0, dCall, dYes,   dSl, dNoPart, dPart, qSl, dBack, qBack, dFor, dISeq, dIRng1, dIRng2, dIZip, dLc, dDc,   qAdd, qInt, qInt0, qSub, qMul, qDiv, qMod, qPow, qLt, qLe, qGt, qGe, qIs, qIsNot, qIx, qLen, qAbs, qMax, qMin, qSum, qAll, qAny, qInt_, qStr_, qList_, qTuple_, qDict_, qIsi, qSet, iAdd, iSub, iMul, iDiv, iMod,   mAppend, mExtend, mPop, truD, tyN, isTy, seqD, lstD, keyD, isNonD,   kit_ii, kit_bi, kit_si, kit_ti, kit_li, kit_di, kit_ni, kit_ib, kit_bb, kit_sb, kit_tb, kit_lb, kit_nb, kit_is, kit_ss, kit_ts, kit_ls, kit_ns, kit_it, kit_st, kit_tt, kit_lt, kit_nt, kit_il, kit_tl, kit_ll, kit_dl, kit_nl, kit_dd, kit_nd, kit_ld,   startD, wipeD, List.map_cons, List.map_nil, List.length_cons, List.length_nil, Nat.reduceAdd, Nat.reduceSub, List.replicate_succ, List.replicate_zero, List.cons_append, List.nil_append, List.getElem?_cons_zero, List.getElem?_cons_succ, List.set_cons_zero, List.set_cons_succ,   List.length_append, List.length_set, set_get, Option.map_some, List.set_set, atI_0, atI_1, atI_2, atI_3, atI_4, atI_5, atI_6, List.append_assoc, Nat.add_assoc, getK, getK0, getL, setK, setK0, setL, List.length_map, mJoin, mIndex, mCount, mGet, strsOf, intsOf, blsOf, Option.bind_some, intsD_map, strsD_map, blsD_map, Option.isSome_some, szl, Nat.reduceLeDiff, qEq_ii, qNe_ii, Bool.not_true, Bool.not_false, decT, decF, dDelT, dDisp, dPairs, dFld, dFldS, dMeth, dMake, dIEnum, dAugK, dNever, dListRev, dListRg1, dPar, dListZip, dForD, mSetd, dRaise, dCallX, dMethX, dMakeX, dTryOnly, dTryAs, wipeE, qIsE, clsVal, clsVals, PySem.W.kitAny, eq_self, true_and, hlt]
      refine ⟨s, rfl, by omega, by omega, ?_⟩
      have hpl := s.places_len
      have hsp := s.size_pos
      have hgl : ∀ (o : MO), (M.set l o ++ (G ++ [MO.lst (List.map plcD s.places)]))[M.length + G.length]? = some (.lst (s.places.map plcD)) := fun o => by
        rw [getK (by simp), getK0 rfl]
        rfl
      try simp only [dSeq, dAsg, dgName, dgTup, dgCons, dgNil, dgSub, dRet, dRetN, dIfS, dDrop, dNext, dBreak, dCont, dAug, dVar, dC, dBin, dTest, dChain, dTru, dNotT, dAndT, dOrT, dAndV, dOrV, dNotV, dIf, dNil, dCons, dTup, dLst, dNewDict, dNeg, dCB, dBM, dBM0, dCall, dYes,   dSl, dNoPart, dPart, qSl, dBack, qBack, dFor, dISeq, dIRng1, dIRng2, dIZip, dLc, dDc,   qAdd, qInt, qInt0, qSub, qMul, qDiv, qMod, qPow, qLt, qLe, qGt, qGe, qIs, qIsNot, qIx, qLen, qAbs, qMax, qMin, qSum, qAll, qAny, qInt_, qStr_, qList_, qTuple_, qDict_, qIsi, qSet, iAdd, iSub, iMul, iDiv, iMod,   mAppend, mExtend, mPop, truD, tyN, isTy, seqD, lstD, keyD, isNonD,   kit_ii, kit_bi, kit_si, kit_ti, kit_li, kit_di, kit_ni, kit_ib, kit_bb, kit_sb, kit_tb, kit_lb, kit_nb, kit_is, kit_ss, kit_ts, kit_ls, kit_ns, kit_it, kit_st, kit_tt, kit_lt, kit_nt, kit_il, kit_tl, kit_ll, kit_dl, kit_nl, kit_dd, kit_nd, kit_ld,   startD, wipeD, List.map_cons, List.map_nil, List.length_cons, List.length_nil, Nat.reduceAdd, Nat.reduceSub, List.replicate_succ, List.replicate_zero, List.cons_append, List.nil_append, List.getElem?_cons_zero, List.getElem?_cons_succ, List.set_cons_zero, List.set_cons_succ,   List.length_append, List.length_set, set_get, Option.map_some, List.set_set, atI_0, atI_1, atI_2, atI_3, atI_4, atI_5, atI_6, List.append_assoc, Nat.add_assoc, getK, getK0, getL, setK, setK0, setL, List.length_map, mJoin, mIndex, mCount, mGet, strsOf, intsOf, blsOf, Option.bind_some, intsD_map, strsD_map, blsD_map, Option.isSome_some, szl, Nat.reduceLeDiff, qEq_ii, qNe_ii, Bool.not_true, Bool.not_false, decT, decF, dDelT, dDisp, dPairs, dFld, dFldS, dMeth, dMake, dIEnum, dAugK, dNever, dListRev, dListRg1, dPar, dListZip, dForD, mSetd, dRaise, dCallX, dMethX, dMakeX, dTryOnly, dTryAs, wipeE, qIsE, clsVal, clsVals, PySem.W.kitAny, eq_self, true_and, hlt, hgl]
      refine use_off hlt ho3 (by omega) (by omega) fun r o4 h4 ho4 => ?_
      obtain ⟨p, hp⟩ : ∃ p, s.places[r]? = some p := ⟨_, List.getElem?_eq_getElem (by omega)⟩
      have f1 : atI (s.places.map plcD) (r : Int) = some (plcD p) := atI_nat (by rw [List.getElem?_map, hp]; rfl)
      have hmem := List.mem_of_getElem? hp
      obtain ⟨v, hv⟩ := Tm.at_places p hmem
      have hpd := Tm.place_len p hmem
      try simp only [dSeq, dAsg, dgName, dgTup, dgCons, dgNil, dgSub, dRet, dRetN, dIfS, dDrop, dNext, dBreak, dCont, dAug, dVar, dC, dBin, dTest, dChain, dTru, dNotT, dAndT, dOrT, dAndV, dOrV, dNotV, dIf, dNil, dCons, dTup, dLst, dNewDict, dNeg, dCB, dBM, dBM0, dCall, dYes,   dSl, dNoPart, dPart, qSl, dBack, qBack, dFor, dISeq, dIRng1, dIRng2, dIZip, dLc, dDc,   qAdd, qInt, qInt0, qSub, qMul, qDiv, qMod, qPow, qLt, qLe, qGt, qGe, qIs, qIsNot, qIx, qLen, qAbs, qMax, qMin, qSum, qAll, qAny, qInt_, qStr_, qList_, qTuple_, qDict_, qIsi, qSet, iAdd, iSub, iMul, iDiv, iMod,   mAppend, mExtend, mPop, truD, tyN, isTy, seqD, lstD, keyD, isNonD,   kit_ii, kit_bi, kit_si, kit_ti, kit_li, kit_di, kit_ni, kit_ib, kit_bb, kit_sb, kit_tb, kit_lb, kit_nb, kit_is, kit_ss, kit_ts, kit_ls, kit_ns, kit_it, kit_st, kit_tt, kit_lt, kit_nt, kit_il, kit_tl, kit_ll, kit_dl, kit_nl, kit_dd, kit_nd, kit_ld,   startD, wipeD, List.map_cons, List.map_nil, List.length_cons, List.length_nil, Nat.reduceAdd, Nat.reduceSub, List.replicate_succ, List.replicate_zero, List.cons_append, List.nil_append, List.getElem?_cons_zero, List.getElem?_cons_succ, List.set_cons_zero, List.set_cons_succ,   List.length_append, List.length_set, set_get, Option.map_some, List.set_set, atI_0, atI_1, atI_2, atI_3, atI_4, atI_5, atI_6, List.append_assoc, Nat.add_assoc, getK, getK0, getL, setK, setK0, setL, List.length_map, mJoin, mIndex, mCount, mGet, strsOf, intsOf, blsOf, Option.bind_some, intsD_map, strsD_map, blsD_map, Option.isSome_some, szl, Nat.reduceLeDiff, qEq_ii, qNe_ii, Bool.not_true, Bool.not_false, decT, decF, dDelT, dDisp, dPairs, dFld, dFldS, dMeth, dMake, dIEnum, dAugK, dNever, dListRev, dListRg1, dPar, dListZip, dForD, mSetd, dRaise, dCallX, dMethX, dMakeX, dTryOnly, dTryAs, wipeE, qIsE, clsVal, clsVals, PySem.W.kitAny, eq_self, true_and, hlt, hgl, f1]
      refine ⟨by unfold CDiv; omega, ?_⟩
      have hdp : (1 : Int) - (way : Int) / 2 = ((1 - way / 2 : Nat) : Int) := by omega
      rw [hdp]
      refine ⟨l, a, b, 1 - way / 2, ss, vs, rfl, by omega, by decide, hdo _ _ ho4, hla, hlb, (hget _ _).1, (hget _ _).2, hss, hvs, fun o5 new ho5 hnew hnd hnz => ?_⟩
      have ns85 := hnz A hA
      have ns1 : bigOf A (1 - way / 2) ≤ bigOf A 1 := by
        have : 1 - way / 2 = 0 ∨ 1 - way / 2 = 1 := by omega
        rcases this with h | h
        · rw [h]; show 1 ≤ 1 + A * 1; omega
        · rw [h]; exact Nat.le_refl _
      try simp only [dSeq, dAsg, dgName, dgTup, dgCons, dgNil, dgSub, dRet, dRetN, dIfS, dDrop, dNext, dBreak, dCont, dAug, dVar, dC, dBin, dTest, dChain, dTru, dNotT, dAndT, dOrT, dAndV, dOrV, dNotV, dIf, dNil, dCons, dTup, dLst, dNewDict, dNeg, dCB, dBM, dBM0, dCall, dYes,   dSl, dNoPart, dPart, qSl, dBack, qBack, dFor, dISeq, dIRng1, dIRng2, dIZip, dLc, dDc,   qAdd, qInt, qInt0, qSub, qMul, qDiv, qMod, qPow, qLt, qLe, qGt, qGe, qIs, qIsNot, qIx, qLen, qAbs, qMax, qMin, qSum, qAll, qAny, qInt_, qStr_, qList_, qTuple_, qDict_, qIsi, qSet, iAdd, iSub, iMul, iDiv, iMod,   mAppend, mExtend, mPop, truD, tyN, isTy, seqD, lstD, keyD, isNonD,   kit_ii, kit_bi, kit_si, kit_ti, kit_li, kit_di, kit_ni, kit_ib, kit_bb, kit_sb, kit_tb, kit_lb, kit_nb, kit_is, kit_ss, kit_ts, kit_ls, kit_ns, kit_it, kit_st, kit_tt, kit_lt, kit_nt, kit_il, kit_tl, kit_ll, kit_dl, kit_nl, kit_dd, kit_nd, kit_ld,   startD, wipeD, List.map_cons, List.map_nil, List.length_cons, List.length_nil, Nat.reduceAdd, Nat.reduceSub, List.replicate_succ, List.replicate_zero, List.cons_append, List.nil_append, List.getElem?_cons_zero, List.getElem?_cons_succ, List.set_cons_zero, List.set_cons_succ,   List.length_append, List.length_set, set_get, Option.map_some, List.set_set, atI_0, atI_1, atI_2, atI_3, atI_4, atI_5, atI_6, List.append_assoc, Nat.add_assoc, getK, getK0, getL, setK, setK0, setL, List.length_map, mJoin, mIndex, mCount, mGet, strsOf, intsOf, blsOf, Option.bind_some, intsD_map, strsD_map, blsD_map, Option.isSome_some, szl, Nat.reduceLeDiff, qEq_ii, qNe_ii, Bool.not_true, Bool.not_false, decT, decF, dDelT, dDisp, dPairs, dFld, dFldS, dMeth, dMake, dIEnum, dAugK, dNever, dListRev, dListRg1, dPar, dListZip, dForD, mSetd, dRaise, dCallX, dMethX, dMakeX, dTryOnly, dTryAs, wipeE, qIsE, clsVal, clsVals, PySem.W.kitAny, eq_self, true_and, hlt]
      refine ⟨s, new, v, p, rfl, hv, by omega, by omega, by omega, ?_⟩
      try simp only [dSeq, dAsg, dgName, dgTup, dgCons, dgNil, dgSub, dRet, dRetN, dIfS, dDrop, dNext, dBreak, dCont, dAug, dVar, dC, dBin, dTest, dChain, dTru, dNotT, dAndT, dOrT, dAndV, dOrV, dNotV, dIf, dNil, dCons, dTup, dLst, dNewDict, dNeg, dCB, dBM, dBM0, dCall, dYes,   dSl, dNoPart, dPart, qSl, dBack, qBack, dFor, dISeq, dIRng1, dIRng2, dIZip, dLc, dDc,   qAdd, qInt, qInt0, qSub, qMul, qDiv, qMod, qPow, qLt, qLe, qGt, qGe, qIs, qIsNot, qIx, qLen, qAbs, qMax, qMin, qSum, qAll, qAny, qInt_, qStr_, qList_, qTuple_, qDict_, qIsi, qSet, iAdd, iSub, iMul, iDiv, iMod,   mAppend, mExtend, mPop, truD, tyN, isTy, seqD, lstD, keyD, isNonD,   kit_ii, kit_bi, kit_si, kit_ti, kit_li, kit_di, kit_ni, kit_ib, kit_bb, kit_sb, kit_tb, kit_lb, kit_nb, kit_is, kit_ss, kit_ts, kit_ls, kit_ns, kit_it, kit_st, kit_tt, kit_lt, kit_nt, kit_il, kit_tl, kit_ll, kit_dl, kit_nl, kit_dd, kit_nd, kit_ld,   startD, wipeD, List.map_cons, List.map_nil, List.length_cons, List.length_nil, Nat.reduceAdd, Nat.reduceSub, List.replicate_succ, List.replicate_zero, List.cons_append, List.nil_append, List.getElem?_cons_zero, List.getElem?_cons_succ, List.set_cons_zero, List.set_cons_succ,   List.length_append, List.length_set, set_get, Option.map_some, List.set_set, atI_0, atI_1, atI_2, atI_3, atI_4, atI_5, atI_6, List.append_assoc, Nat.add_assoc, getK, getK0, getL, setK, setK0, setL, List.length_map, mJoin, mIndex, mCount, mGet, strsOf, intsOf, blsOf, Option.bind_some, intsD_map, strsD_map, blsD_map, Option.isSome_some, szl, Nat.reduceLeDiff, qEq_ii, qNe_ii, Bool.not_true, Bool.not_false, decT, decF, dDelT, dDisp, dPairs, dFld, dFldS, dMeth, dMake, dIEnum, dAugK, dNever, dListRev, dListRg1, dPar, dListZip, dForD, mSetd, dRaise, dCallX, dMethX, dMakeX, dTryOnly, dTryAs, wipeE, qIsE, clsVal, clsVals, PySem.W.kitAny, eq_self, true_and]
      have z1 := Tm.put_size (new := new) p hv
      have z2 := Tm.put_deep (new := new) p hv
      refine Done.old (okM_set hM (ho5.ok _)) (takeK (by simp)) ?_ (q o5 s _ ho5 hs (hnew.put p hv hs) (by omega) (by omega) (by omega) (by omega))
      unfold okD
      rw [okDs_iff]
      intro d hd
      simp only [List.mem_cons, List.not_mem_nil, or_false] at hd
      rcases hd with rfl | rfl
      · exact Tm.ok _ _
      · exact Tm.ok _ _
    · rw [decide_eq_false hw]
      try simp only [dSeq, dAsg, dgName, dgTup, dgCons, dgNil, dgSub, dRet, dRetN, dIfS, dDrop, dNext, dBreak, dCont, dAug, dVar, dC, dBin, dTest, dChain, dTru, dNotT, dAndT, dOrT, dAndV, dOrV, dNotV, dIf, dNil, dCons, dTup, dLst, dNewDict, dNeg, dCB, dBM, dBM0, dCall, dYes,   dSl, dNoPart, dPart, qSl, dBack, qBack, dFor, dISeq, dIRng1, dIRng2, dIZip, dLc, dDc,   qAdd, qInt, qInt0, qSub, qMul, qDiv, qMod, qPow, qLt, qLe, qGt, qGe, qIs, qIsNot, qIx, qLen, qAbs, qMax, qMin, qSum, qAll, qAny, qInt_, qStr_, qList_, qTuple_, qDict_, qIsi, qSet, iAdd, iSub, iMul, iDiv, iMod,   mAppend, mExtend, mPop, truD, tyN, isTy, seqD, lstD, keyD, isNonD,   kit_ii, kit_bi, kit_si, kit_ti, kit_li, kit_di, kit_ni, kit_ib, kit_bb, kit_sb, kit_tb, kit_lb, kit_nb, kit_is, kit_ss, kit_ts, kit_ls, kit_ns, kit_it, kit_st, kit_tt, kit_lt, kit_nt, kit_il, kit_tl, kit_ll, kit_dl, kit_nl, kit_dd, kit_nd, kit_ld,   startD, wipeD, List.map_cons, List.map_nil, List.length_cons, List.length_nil, Nat.reduceAdd, Nat.reduceSub, List.replicate_succ, List.replicate_zero, List.cons_append, List.nil_append, List.getElem?_cons_zero, List.getElem?_cons_succ, List.set_cons_zero, List.set_cons_succ,   List.length_append, List.length_set, set_get, Option.map_some, List.set_set, atI_0, atI_1, atI_2, atI_3, atI_4, atI_5, atI_6, List.append_assoc, Nat.add_assoc, getK, getK0, getL, setK, setK0, setL, List.length_map, mJoin, mIndex, mCount, mGet, strsOf, intsOf, blsOf, Option.bind_some, intsD_map, strsD_map, blsD_map, Option.isSome_some, szl, Nat.reduceLeDiff, qEq_ii, qNe_ii, Bool.not_true, Bool.not_false, decT, decF, dDelT, dDisp, dPairs, dFld, dFldS, dMeth, dMake, dIEnum, dAugK, dNever, dListRev, dListRg1, dPar, dListZip, dForD, mSetd, dRaise, dCallX, dMethX, dMakeX, dTryOnly, dTryAs, wipeE, qIsE, clsVal, clsVals, PySem.W.kitAny, eq_self, true_and]
      refine Done.old (okM_set hM (ho3.ok _)) (takeK (by simp)) ?_ (q o3 s t ho3 hs ht (by omega) (by omega) (by omega) (by omega))
      unfold okD
      rw [okDs_iff]
      intro d hd
      simp only [List.mem_cons, List.not_mem_nil, or_false] at hd
      rcases hd with rfl | rfl
      · exact Tm.ok _ _
      · exact Tm.ok _ _
  · try simp only [dSeq, dAsg, dgName, dgTup, dgCons, dgNil, dgSub, dRet, dRetN, dIfS, dDrop, dNext, dBreak, dCont, dAug, dVar, dC, dBin, dTest, dChain, dTru, dNotT, dAndT, dOrT, dAndV, dOrV, dNotV, dIf, dNil, dCons, dTup, dLst, dNewDict, dNeg, dCB, dBM, dBM0, dCall, dYes,   dSl, dNoPart, dPart, qSl, dBack, qBack, dFor, dISeq, dIRng1, dIRng2, dIZip, dLc, dDc,   qAdd, qInt, qInt0, qSub, qMul, qDiv, qMod, qPow, qLt, qLe, qGt, qGe, qIs, qIsNot, qIx, qLen, qAbs, qMax, qMin, qSum, qAll, qAny, qInt_, qStr_, qList_, qTuple_, qDict_, qIsi, qSet, iAdd, iSub, iMul, iDiv, iMod,   mAppend, mExtend, mPop, truD, tyN, isTy, seqD, lstD, keyD, isNonD,   kit_ii, kit_bi, kit_si, kit_ti, kit_li, kit_di, kit_ni, kit_ib, kit_bb, kit_sb, kit_tb, kit_lb, kit_nb, kit_is, kit_ss, kit_ts, kit_ls, kit_ns, kit_it, kit_st, kit_tt, kit_lt, kit_nt, kit_il, kit_tl, kit_ll, kit_dl, kit_nl, kit_dd, kit_nd, kit_ld,   startD, wipeD, List.map_cons, List.map_nil, List.length_cons, List.length_nil, Nat.reduceAdd, Nat.reduceSub, List.replicate_succ, List.replicate_zero, List.cons_append, List.nil_append, List.getElem?_cons_zero, List.getElem?_cons_succ, List.set_cons_zero, List.set_cons_succ,   List.length_append, List.length_set, set_get, Option.map_some, List.set_set, atI_0, atI_1, atI_2, atI_3, atI_4, atI_5, atI_6, List.append_assoc, Nat.add_assoc, getK, getK0, getL, setK, setK0, setL, List.length_map, mJoin, mIndex, mCount, mGet, strsOf, intsOf, blsOf, Option.bind_some, intsD_map, strsD_map, blsD_map, Option.isSome_some, szl, Nat.reduceLeDiff, qEq_ii, qNe_ii, Bool.not_true, Bool.not_false, decT, decF, dDelT, dDisp, dPairs, dFld, dFldS, dMeth, dMake, dIEnum, dAugK, dNever, dListRev, dListRg1, dPar, dListZip, dForD, mSetd, dRaise, dCallX, dMethX, dMakeX, dTryOnly, dTryAs, wipeE, qIsE, clsVal, clsVals, PySem.W.kitAny, eq_self, true_and, ha]
    refine lcGo_ind (fun items M' acc => ∃ ps qs : List Sg, ss = ps ++ qs ∧ items = qs.map Sg.d ∧ M' = M ∧ acc = (ps.map fun s => ((s.ar : Nat) : Int)).map D.int) ?_ ?_ _ _ _ ⟨[], ss, rfl, rfl, rfl, rfl⟩
    · rintro x rest M' acc ⟨ps, qs, hps, hi, rfl, rfl⟩ ih
      refine ⟨ha, ?_⟩
      cases qs with
      | nil => cases hi
      | cons g qs =>
      rw [List.map_cons] at hi
      injection hi with hx hr
      subst hx hr
      have hgd : g.d = .tup [.str g.nm, .int g.ar, .int g.wt] := rfl
      rw [hgd]
      try simp only [dSeq, dAsg, dgName, dgTup, dgCons, dgNil, dgSub, dRet, dRetN, dIfS, dDrop, dNext, dBreak, dCont, dAug, dVar, dC, dBin, dTest, dChain, dTru, dNotT, dAndT, dOrT, dAndV, dOrV, dNotV, dIf, dNil, dCons, dTup, dLst, dNewDict, dNeg, dCB, dBM, dBM0, dCall, dYes,   dSl, dNoPart, dPart, qSl, dBack, qBack, dFor, dISeq, dIRng1, dIRng2, dIZip, dLc, dDc,   qAdd, qInt, qInt0, qSub, qMul, qDiv, qMod, qPow, qLt, qLe, qGt, qGe, qIs, qIsNot, qIx, qLen, qAbs, qMax, qMin, qSum, qAll, qAny, qInt_, qStr_, qList_, qTuple_, qDict_, qIsi, qSet, iAdd, iSub, iMul, iDiv, iMod,   mAppend, mExtend, mPop, truD, tyN, isTy, seqD, lstD, keyD, isNonD,   kit_ii, kit_bi, kit_si, kit_ti, kit_li, kit_di, kit_ni, kit_ib, kit_bb, kit_sb, kit_tb, kit_lb, kit_nb, kit_is, kit_ss, kit_ts, kit_ls, kit_ns, kit_it, kit_st, kit_tt, kit_lt, kit_nt, kit_il, kit_tl, kit_ll, kit_dl, kit_nl, kit_dd, kit_nd, kit_ld,   startD, wipeD, List.map_cons, List.map_nil, List.length_cons, List.length_nil, Nat.reduceAdd, Nat.reduceSub, List.replicate_succ, List.replicate_zero, List.cons_append, List.nil_append, List.getElem?_cons_zero, List.getElem?_cons_succ, List.set_cons_zero, List.set_cons_succ,   List.length_append, List.length_set, set_get, Option.map_some, List.set_set, atI_0, atI_1, atI_2, atI_3, atI_4, atI_5, atI_6, List.append_assoc, Nat.add_assoc, getK, getK0, getL, setK, setK0, setL, List.length_map, mJoin, mIndex, mCount, mGet, strsOf, intsOf, blsOf, Option.bind_some, intsD_map, strsD_map, blsD_map, Option.isSome_some, szl, Nat.reduceLeDiff, qEq_ii, qNe_ii, Bool.not_true, Bool.not_false, decT, decF, dDelT, dDisp, dPairs, dFld, dFldS, dMeth, dMake, dIEnum, dAugK, dNever, dListRev, dListRg1, dPar, dListZip, dForD, mSetd, dRaise, dCallX, dMethX, dMakeX, dTryOnly, dTryAs, wipeE, qIsE, clsVal, clsVals, PySem.W.kitAny, eq_self, true_and]
      rw [hps, List.length_append] at hlen
      refine ⟨by omega, ih _ _ ⟨ps ++ [g], qs, by rw [hps, List.append_assoc]; rfl, rfl, rfl, ?_⟩⟩
      rw [List.map_append, List.map_append]
      rfl
    · rintro M' acc ⟨ps, qs, hps, hi, rfl, rfl⟩
      have hqn : qs = [] := by cases qs with
        | nil => rfl
        | cons _ _ => cases hi
      subst hqn
      rw [List.append_nil] at hps
      subst hps
      refine ⟨ha, ?_⟩
      try simp only [dSeq, dAsg, dgName, dgTup, dgCons, dgNil, dgSub, dRet, dRetN, dIfS, dDrop, dNext, dBreak, dCont, dAug, dVar, dC, dBin, dTest, dChain, dTru, dNotT, dAndT, dOrT, dAndV, dOrV, dNotV, dIf, dNil, dCons, dTup, dLst, dNewDict, dNeg, dCB, dBM, dBM0, dCall, dYes,   dSl, dNoPart, dPart, qSl, dBack, qBack, dFor, dISeq, dIRng1, dIRng2, dIZip, dLc, dDc,   qAdd, qInt, qInt0, qSub, qMul, qDiv, qMod, qPow, qLt, qLe, qGt, qGe, qIs, qIsNot, qIx, qLen, qAbs, qMax, qMin, qSum, qAll, qAny, qInt_, qStr_, qList_, qTuple_, qDict_, qIsi, qSet, iAdd, iSub, iMul, iDiv, iMod,   mAppend, mExtend, mPop, truD, tyN, isTy, seqD, lstD, keyD, isNonD,   kit_ii, kit_bi, kit_si, kit_ti, kit_li, kit_di, kit_ni, kit_ib, kit_bb, kit_sb, kit_tb, kit_lb, kit_nb, kit_is, kit_ss, kit_ts, kit_ls, kit_ns, kit_it, kit_st, kit_tt, kit_lt, kit_nt, kit_il, kit_tl, kit_ll, kit_dl, kit_nl, kit_dd, kit_nd, kit_ld,   startD, wipeD, List.map_cons, List.map_nil, List.length_cons, List.length_nil, Nat.reduceAdd, Nat.reduceSub, List.replicate_succ, List.replicate_zero, List.cons_append, List.nil_append, List.getElem?_cons_zero, List.getElem?_cons_succ, List.set_cons_zero, List.set_cons_succ,   List.length_append, List.length_set, set_get, Option.map_some, List.set_set, atI_0, atI_1, atI_2, atI_3, atI_4, atI_5, atI_6, List.append_assoc, Nat.add_assoc, getK, getK0, getL, setK, setK0, setL, List.length_map, mJoin, mIndex, mCount, mGet, strsOf, intsOf, blsOf, Option.bind_some, intsD_map, strsD_map, blsD_map, Option.isSome_some, szl, Nat.reduceLeDiff, qEq_ii, qNe_ii, Bool.not_true, Bool.not_false, decT, decF, dDelT, dDisp, dPairs, dFld, dFldS, dMeth, dMake, dIEnum, dAugK, dNever, dListRev, dListRg1, dPar, dListZip, dForD, mSetd, dRaise, dCallX, dMethX, dMakeX, dTryOnly, dTryAs, wipeE, qIsE, clsVal, clsVals, PySem.W.kitAny, eq_self, true_and]
      refine ⟨by omega, fun k hk1 hk2 => ?_⟩
      by_cases hk : 2 < k
      · rw [decide_eq_true hk]
        exact hR _ _ ⟨1, 4, [MO.lst ((ss.map fun s => ((s.ar : Nat) : Int)).map D.int)], by decide, by decide, hss.ar, by decide, by decide, by decide, rfl, by rw [hM0]⟩
      · rw [decide_eq_false hk]
        refine hR _ _ ⟨2, 2, [MO.lst ((ss.map fun s => ((s.ar : Nat) : Int)).map D.int)], by decide, by decide, fun g hg => ?_, by decide, by decide, by decide, rfl, by rw [hM0]⟩
        have := hk2 _ (List.mem_map.mpr ⟨g, hg, rfl⟩)
        omega
end
section
variable {P : Program} {w : World} {K : PySem.W.Frag} {mg : Str → Option Value} {base : Heap}
def pr (p : Tm × Tm) : MO := .lst [p.1.d, p.2.d]
def sp_right : DSp := fun ds M Q _ => ∃ (s t : Tm) (due : Bool), ds = [s.d, t.d, .bl due] ∧ s.Nm NameOk ∧ t.Nm NameOk ∧ s.size ≤ 500 ∧ t.size ≤ 500 ∧ (due = true → s = t) ∧ (due = false → ∀ θ : Fl, s.fill θ ≠ t.fill θ) ∧ Q (.bl true) M
def rngL (lo : Nat) : Nat → List D
  | 0 => []
  | n + 1 => .loc lo :: rngL (lo + 1) n
theorem fn_right (T : Top K mg) : DFn P w K mg base CX0 7 "_law_right" ["_law_one", "_law_other", "_law_due"] sp_right := by
  have F_met := fn_met (P := P) (w := w) (base := base) T
  obtain ⟨fd, F⟩ := T.d__law_right
  have sc := sc__law_right
  refine DFn.ofD (k := 6) F T.g__law_right (FunD.bindsN F fun _ _ _ _ _ _ us hl => match us, hl with | [_, _, _], _ => rfl) sc ?len ⟨_, fun cdv A outer s H E m0 hr => (
      (dss_cons (ds_for PassesOwn.never rfl (di_seq (de_lst (da_cons (de_lst (da_cons (de_var 0) (da_cons (de_var 1) da_nil))) (da_cons (de_lst (da_cons (de_var 1) (da_cons (de_var 0) da_nil))) (da_cons (de_lst (da_cons (de_tup (da_cons de_str (da_cons (de_var 0) (da_cons de_int da_nil)))) (da_cons (de_tup (da_cons de_str (da_cons (de_var 1) (da_cons de_int da_nil)))) da_nil))) (da_cons (de_lst (da_cons (de_tup (da_cons de_str (da_cons de_int (da_cons (de_var 1) da_nil)))) (da_cons (de_tup (da_cons de_str (da_cons de_int (da_cons (de_var 0) da_nil)))) da_nil))) da_nil)))))) (dg_name 3 sc.nd) (dss_cons (ds_set 4 sc.nd (de_call F_met (hr.mono (by omega)) passX0 (da_cons (de_ix hr (de_var 3) de_int) (da_cons (de_ix hr (de_var 3) de_int) (da_cons de_int da_nil)))))
      (dss_one (ds_if (dt_w (dw_or (dt_w (dw_and (dt_e (de_var 2)) (dw_and1 (dt_cmp (dop_neK hr) (de_var 4) de_dict0)))) (dw_or (dt_w (dw_and (dt_e (de_var 2)) (dw_and1 (dt_not (dt_e (de_cb T.n_isinstance dc_isi b_isinstance (da_cons (de_var 4) (da_cons (de_ty T.n_dict b_dict) da_nil)))))))) (dw_or1 (dt_w (dw_and (dt_not (dt_e (de_var 2))) (dw_and1 (dt_cmp dop_isnot (de_var 4) de_non)))))))) (dss_one (ds_ret de_bl)) dss_nil))))
      (dss_one (ds_ret de_bl)))), ?_⟩
  case len =>
    rintro ds M Q E ⟨s, t, due, rfl, _⟩
    rfl
  rintro ds M Qd Ed ⟨s, t, due, rfl, hsn, htn, hsz, htz, hd1, hd2, q⟩ hM
  have hf : NameOk "f" := by unfold NameOk; decide +kernel
  obtain ⟨prs, hprs⟩ : ∃ prs : List (Tm × Tm), prs = [(s, t), (t, s), (.app "f" [s, .var 3], .app "f" [t, .var 3]), (.app "f" [.var 3, t], .app "f" [.var 3, s])] := ⟨_, rfl⟩
  have hall : ∀ p ∈ prs, p.1.Nm NameOk ∧ p.2.Nm NameOk ∧ p.1.size + p.2.size ≤ 2000 ∧ (due = true → p.1 = p.2) ∧ (due = false → ∀ θ : Fl, p.1.fill θ ≠ p.2.fill θ) := by
    have nf : ∀ a b : Tm, a.Nm NameOk → b.Nm NameOk → (Tm.app "f" [a, b]).Nm NameOk := fun a b ha hb => .app hf fun u hu => by
      simp only [List.mem_cons, List.not_mem_nil, or_false] at hu
      rcases hu with rfl | rfl
      · exact ha
      · exact hb
    have zf : ∀ a b : Tm, (Tm.app "f" [a, b]).size = 1 + (a.size + b.size) := fun a b => by rw [Tm.size_app, Tm.sizes_cons, Tm.sizes_cons, Tm.sizes_nil, Nat.add_zero]
    have z3 : (Tm.var 3).size = 1 := Tm.size_var 3
    intro p hp
    rw [hprs] at hp
    simp only [List.mem_cons, List.not_mem_nil, or_false] at hp
    rcases hp with rfl | rfl | rfl | rfl
    · exact ⟨hsn, htn, (by show s.size + t.size ≤ 2000; omega), hd1, hd2⟩
    · exact ⟨htn, hsn, (by show t.size + s.size ≤ 2000; omega), fun h => (hd1 h).symm, fun h θ e => hd2 h θ e.symm⟩
    · refine ⟨nf _ _ hsn .var, nf _ _ htn .var, by simp only [zf, z3]; omega, fun h => by rw [hd1 h], fun h θ e => hd2 h θ ?_⟩
      simp only [Tm.fill_app, List.map_cons, List.map_nil] at e
      injection e with _ e
      injection e
    · refine ⟨nf _ _ .var htn, nf _ _ .var hsn, by simp only [zf, z3]; omega, fun h => by rw [hd1 h], fun h θ e => hd2 h θ ?_⟩
      simp only [Tm.fill_app, List.map_cons, List.map_nil] at e
      injection e with _ e
      injection e with _ e
      injection e with e
      exact e.symm
  have df : ∀ a b : Tm, (Tm.app "f" [a, b]).d = .tup [.str "f", a.d, b.d] := fun a b => by rw [Tm.d_app]; rfl
  have e3 : (Tm.var 3).d = .int 3 := Tm.d_var 3
  have eM : [MO.lst [s.d, t.d], .lst [t.d, s.d], .lst [.tup [.str "f", s.d, .int 3], .tup [.str "f", t.d, .int 3]], .lst [.tup [.str "f", .int 3, t.d], .tup [.str "f", .int 3, s.d]]] = prs.map pr := by
    rw [hprs]
    simp only [List.map_cons, List.map_nil, pr, df, e3]
  try simp only [dSeq, dAsg, dgName, dgTup, dgCons, dgNil, dgSub, dRet, dRetN, dIfS, dDrop, dNext, dBreak, dCont, dAug, dVar, dC, dBin, dTest, dChain, dTru, dNotT, dAndT, dOrT, dAndV, dOrV, dNotV, dIf, dNil, dCons, dTup, dLst, dNewDict, dNeg, dCB, dBM, dBM0, dCall, dYes,   dSl, dNoPart, dPart, qSl, dBack, qBack, dFor, dISeq, dIRng1, dIRng2, dIZip, dLc, dDc,   qAdd, qInt, qInt0, qSub, qMul, qDiv, qMod, qPow, qLt, qLe, qGt, qGe, qIs, qIsNot, qIx, qLen, qAbs, qMax, qMin, qSum, qAll, qAny, qInt_, qStr_, qList_, qTuple_, qDict_, qIsi, qSet, iAdd, iSub, iMul, iDiv, iMod,   mAppend, mExtend, mPop, truD, tyN, isTy, seqD, lstD, keyD, isNonD,   kit_ii, kit_bi, kit_si, kit_ti, kit_li, kit_di, kit_ni, kit_ib, kit_bb, kit_sb, kit_tb, kit_lb, kit_nb, kit_is, kit_ss, kit_ts, kit_ls, kit_ns, kit_it, kit_st, kit_tt, kit_lt, kit_nt, kit_il, kit_tl, kit_ll, kit_dl, kit_nl, kit_dd, kit_nd, kit_ld,   startD, wipeD, List.map_cons, List.map_nil, List.length_cons, List.length_nil, Nat.reduceAdd, Nat.reduceSub, List.replicate_succ, List.replicate_zero, List.cons_append, List.nil_append, List.getElem?_cons_zero, List.getElem?_cons_succ, List.set_cons_zero, List.set_cons_succ,   List.length_append, List.length_set, set_get, Option.map_some, List.set_set, atI_0, atI_1, atI_2, atI_3, atI_4, atI_5, atI_6, List.append_assoc, Nat.add_assoc, getK, getK0, getL, setK, setK0, setL, List.length_map, mJoin, mIndex, mCount, mGet, strsOf, intsOf, blsOf, Option.bind_some, intsD_map, strsD_map, blsD_map, Option.isSome_some, szl, Nat.reduceLeDiff, qEq_ii, qNe_ii, Bool.not_true, Bool.not_false, decT, decF, dDelT, dDisp, dPairs, dFld, dFldS, dMeth, dMake, dIEnum, dAugK, dNever, dListRev, dListRg1, dPar, dListZip, dForD, mSetd, dRaise, dCallX, dMethX, dMakeX, dTryOnly, dTryAs, wipeE, qIsE, clsVal, clsVals, PySem.W.kitAny, eq_self, true_and]
  have hitems : [D.loc M.length, D.loc (M.length + 1), D.loc (M.length + 2), D.loc (M.length + 3)] = rngL (M.length + ([] : List (Tm × Tm)).length) prs.length := by rw [hprs]; rfl
  have hprl : prs.length = 4 := by rw [hprs]; rfl
  have hMM : ∀ X : MO, M ++ [MO.lst [s.d, t.d], MO.lst [t.d, s.d], MO.lst [D.tup [D.str (Str.ofString "f"), s.d, D.int 3], D.tup [D.str (Str.ofString "f"), t.d, D.int 3]],
        MO.lst [D.tup [D.str (Str.ofString "f"), D.int 3, t.d], D.tup [D.str (Str.ofString "f"), D.int 3, s.d]], X] = M ++ (prs.map pr ++ X :: []) := fun X => by rw [← eM]; rfl
  rw [hMM]
  have hX : ∀ (X : MO) (G : Mem), (M ++ (prs.map pr ++ X :: G))[M.length + 4]? = some X := fun X G => by
    rw [getK rfl, List.getElem?_append_right (by rw [List.length_map, hprl]; exact Nat.le_refl _), List.length_map, hprl]
    rfl
  generalize [D.loc (List.length M), D.loc (List.length M + 1), D.loc (List.length M + 2), D.loc (List.length M + 3)] = items at hitems ⊢
  clear hMM eM
  refine forGo_ind (fun its r M' => ∃ (ps qs : List (Tm × Tm)) (G : Mem) (u v : Option D), prs = ps ++ qs ∧ its = rngL (M.length + ps.length) qs.length ∧ r = [some s.d, some t.d, some (.bl due), u, v] ∧ M' = M ++ (prs.map pr ++ .lst items :: G)) ?_ ?_ _ _ _ ⟨[], prs, [], none, none, rfl, hitems, rfl, rfl⟩
  · rintro x rest r M' ⟨ps, qs, G, u, v, hps, hi, rfl, rfl⟩ ih
    refine ⟨hX _ _, ?_⟩
    cases qs with
    | nil => cases hi
    | cons p qs =>
    unfold rngL at hi
    injection hi with hx hr
    subst hx hr
    obtain ⟨h1, h2, h3, h4, h5⟩ := hall p (by rw [hps]; simp)
    have hgp : ∀ Y : Mem, (M ++ (prs.map pr ++ Y))[M.length + ps.length]? = some (.lst [p.1.d, p.2.d]) := fun Y => by
      have hlt : ps.length < (prs.map pr).length := by rw [List.length_map, hps, List.length_append, List.length_cons]; omega
      rw [getK rfl, List.getElem?_append_left hlt, hps, List.map_append, List.getElem?_append_right (by rw [List.length_map]; exact Nat.le_refl _), List.length_map, Nat.sub_self]
      rfl
    have hnext : rngL (M.length + ps.length + 1) qs.length = rngL (M.length + (ps ++ [p]).length) qs.length := by rw [List.length_append]; rfl
    try simp only [dSeq, dAsg, dgName, dgTup, dgCons, dgNil, dgSub, dRet, dRetN, dIfS, dDrop, dNext, dBreak, dCont, dAug, dVar, dC, dBin, dTest, dChain, dTru, dNotT, dAndT, dOrT, dAndV, dOrV, dNotV, dIf, dNil, dCons, dTup, dLst, dNewDict, dNeg, dCB, dBM, dBM0, dCall, dYes,   dSl, dNoPart, dPart, qSl, dBack, qBack, dFor, dISeq, dIRng1, dIRng2, dIZip, dLc, dDc,   qAdd, qInt, qInt0, qSub, qMul, qDiv, qMod, qPow, qLt, qLe, qGt, qGe, qIs, qIsNot, qIx, qLen, qAbs, qMax, qMin, qSum, qAll, qAny, qInt_, qStr_, qList_, qTuple_, qDict_, qIsi, qSet, iAdd, iSub, iMul, iDiv, iMod,   mAppend, mExtend, mPop, truD, tyN, isTy, seqD, lstD, keyD, isNonD,   kit_ii, kit_bi, kit_si, kit_ti, kit_li, kit_di, kit_ni, kit_ib, kit_bb, kit_sb, kit_tb, kit_lb, kit_nb, kit_is, kit_ss, kit_ts, kit_ls, kit_ns, kit_it, kit_st, kit_tt, kit_lt, kit_nt, kit_il, kit_tl, kit_ll, kit_dl, kit_nl, kit_dd, kit_nd, kit_ld,   startD, wipeD, List.map_cons, List.map_nil, List.length_cons, List.length_nil, Nat.reduceAdd, Nat.reduceSub, List.replicate_succ, List.replicate_zero, List.cons_append, List.nil_append, List.getElem?_cons_zero, List.getElem?_cons_succ, List.set_cons_zero, List.set_cons_succ,   List.length_append, List.length_set, set_get, Option.map_some, List.set_set, atI_0, atI_1, atI_2, atI_3, atI_4, atI_5, atI_6, List.append_assoc, Nat.add_assoc, getK, getK0, getL, setK, setK0, setL, List.length_map, mJoin, mIndex, mCount, mGet, strsOf, intsOf, blsOf, Option.bind_some, intsD_map, strsD_map, blsD_map, Option.isSome_some, szl, Nat.reduceLeDiff, qEq_ii, qNe_ii, Bool.not_true, Bool.not_false, decT, decF, dDelT, dDisp, dPairs, dFld, dFldS, dMeth, dMake, dIEnum, dAugK, dNever, dListRev, dListRg1, dPar, dListZip, dForD, mSetd, dRaise, dCallX, dMethX, dMakeX, dTryOnly, dTryAs, wipeE, qIsE, clsVal, clsVals, PySem.W.kitAny, eq_self, true_and, hgp]
    refine ⟨p.1, p.2, 100, rfl, h3, h1, h2, fun θ hθ hm => ?_, fun hno => ?_, fun i u hex hm hu => ?_⟩
    · cases due with
      | false => exact absurd hθ.same (h5 rfl θ)
      | true =>
        have h6 := h4 rfl
        rw [← h6] at hθ
        have h7 := hθ.refl
        subst h7
        try simp only [dSeq, dAsg, dgName, dgTup, dgCons, dgNil, dgSub, dRet, dRetN, dIfS, dDrop, dNext, dBreak, dCont, dAug, dVar, dC, dBin, dTest, dChain, dTru, dNotT, dAndT, dOrT, dAndV, dOrV, dNotV, dIf, dNil, dCons, dTup, dLst, dNewDict, dNeg, dCB, dBM, dBM0, dCall, dYes,   dSl, dNoPart, dPart, qSl, dBack, qBack, dFor, dISeq, dIRng1, dIRng2, dIZip, dLc, dDc,   qAdd, qInt, qInt0, qSub, qMul, qDiv, qMod, qPow, qLt, qLe, qGt, qGe, qIs, qIsNot, qIx, qLen, qAbs, qMax, qMin, qSum, qAll, qAny, qInt_, qStr_, qList_, qTuple_, qDict_, qIsi, qSet, iAdd, iSub, iMul, iDiv, iMod,   mAppend, mExtend, mPop, truD, tyN, isTy, seqD, lstD, keyD, isNonD,   kit_ii, kit_bi, kit_si, kit_ti, kit_li, kit_di, kit_ni, kit_ib, kit_bb, kit_sb, kit_tb, kit_lb, kit_nb, kit_is, kit_ss, kit_ts, kit_ls, kit_ns, kit_it, kit_st, kit_tt, kit_lt, kit_nt, kit_il, kit_tl, kit_ll, kit_dl, kit_nl, kit_dd, kit_nd, kit_ld,   startD, wipeD, List.map_cons, List.map_nil, List.length_cons, List.length_nil, Nat.reduceAdd, Nat.reduceSub, List.replicate_succ, List.replicate_zero, List.cons_append, List.nil_append, List.getElem?_cons_zero, List.getElem?_cons_succ, List.set_cons_zero, List.set_cons_succ,   List.length_append, List.length_set, set_get, Option.map_some, List.set_set, atI_0, atI_1, atI_2, atI_3, atI_4, atI_5, atI_6, List.append_assoc, Nat.add_assoc, getK, getK0, getL, setK, setK0, setL, List.length_map, mJoin, mIndex, mCount, mGet, strsOf, intsOf, blsOf, Option.bind_some, intsD_map, strsD_map, blsD_map, Option.isSome_some, szl, Nat.reduceLeDiff, qEq_ii, qNe_ii, Bool.not_true, Bool.not_false, decT, decF, dDelT, dDisp, dPairs, dFld, dFldS, dMeth, dMake, dIEnum, dAugK, dNever, dListRev, dListRg1, dPar, dListZip, dForD, mSetd, dRaise, dCallX, dMethX, dMakeX, dTryOnly, dTryAs, wipeE, qIsE, clsVal, clsVals, PySem.W.kitAny, eq_self, true_and]
        have hg : ∀ k o, ([MO.dic (flD []), MO.dic []] : Mem)[k]? = some o → (M ++ (prs.map pr ++ MO.lst items :: (G ++ [MO.dic (flD []), MO.dic []])))[M.length + (prs.length + (G.length + (k + 1)))]? = some o := fun k o h => by
          rw [getK rfl, List.getElem?_append_right (by rw [List.length_map]; omega), List.length_map, Nat.add_sub_cancel_left, show G.length + (k + 1) = (G.length + k) + 1 by omega, List.getElem?_cons_succ, List.getElem?_append_right (by omega), Nat.add_sub_cancel_left]
          exact h
        have g1 := hg 0 _ rfl
        have g2 := hg 1 _ rfl
        refine qNeK_same (ks := []) g1 g2 rfl (fun p h => by cases h) rfl ?_
        try simp only [dSeq, dAsg, dgName, dgTup, dgCons, dgNil, dgSub, dRet, dRetN, dIfS, dDrop, dNext, dBreak, dCont, dAug, dVar, dC, dBin, dTest, dChain, dTru, dNotT, dAndT, dOrT, dAndV, dOrV, dNotV, dIf, dNil, dCons, dTup, dLst, dNewDict, dNeg, dCB, dBM, dBM0, dCall, dYes,   dSl, dNoPart, dPart, qSl, dBack, qBack, dFor, dISeq, dIRng1, dIRng2, dIZip, dLc, dDc,   qAdd, qInt, qInt0, qSub, qMul, qDiv, qMod, qPow, qLt, qLe, qGt, qGe, qIs, qIsNot, qIx, qLen, qAbs, qMax, qMin, qSum, qAll, qAny, qInt_, qStr_, qList_, qTuple_, qDict_, qIsi, qSet, iAdd, iSub, iMul, iDiv, iMod,   mAppend, mExtend, mPop, truD, tyN, isTy, seqD, lstD, keyD, isNonD,   kit_ii, kit_bi, kit_si, kit_ti, kit_li, kit_di, kit_ni, kit_ib, kit_bb, kit_sb, kit_tb, kit_lb, kit_nb, kit_is, kit_ss, kit_ts, kit_ls, kit_ns, kit_it, kit_st, kit_tt, kit_lt, kit_nt, kit_il, kit_tl, kit_ll, kit_dl, kit_nl, kit_dd, kit_nd, kit_ld,   startD, wipeD, List.map_cons, List.map_nil, List.length_cons, List.length_nil, Nat.reduceAdd, Nat.reduceSub, List.replicate_succ, List.replicate_zero, List.cons_append, List.nil_append, List.getElem?_cons_zero, List.getElem?_cons_succ, List.set_cons_zero, List.set_cons_succ,   List.length_append, List.length_set, set_get, Option.map_some, List.set_set, atI_0, atI_1, atI_2, atI_3, atI_4, atI_5, atI_6, List.append_assoc, Nat.add_assoc, getK, getK0, getL, setK, setK0, setL, List.length_map, mJoin, mIndex, mCount, mGet, strsOf, intsOf, blsOf, Option.bind_some, intsD_map, strsD_map, blsD_map, Option.isSome_some, szl, Nat.reduceLeDiff, qEq_ii, qNe_ii, Bool.not_true, Bool.not_false, decT, decF, dDelT, dDisp, dPairs, dFld, dFldS, dMeth, dMake, dIEnum, dAugK, dNever, dListRev, dListRg1, dPar, dListZip, dForD, mSetd, dRaise, dCallX, dMethX, dMakeX, dTryOnly, dTryAs, wipeE, qIsE, clsVal, clsVals, PySem.W.kitAny, eq_self, true_and, g1]
        exact ih _ _ ⟨ps ++ [p], qs, G ++ [MO.dic (flD []), MO.dic []], _, _, by rw [hps, List.append_assoc]; rfl, hnext, rfl, rfl⟩
    · cases due with
      | true => exact absurd (congrArg (Tm.fill []) (h4 rfl)) (hno [])
      | false =>
        try simp only [dSeq, dAsg, dgName, dgTup, dgCons, dgNil, dgSub, dRet, dRetN, dIfS, dDrop, dNext, dBreak, dCont, dAug, dVar, dC, dBin, dTest, dChain, dTru, dNotT, dAndT, dOrT, dAndV, dOrV, dNotV, dIf, dNil, dCons, dTup, dLst, dNewDict, dNeg, dCB, dBM, dBM0, dCall, dYes,   dSl, dNoPart, dPart, qSl, dBack, qBack, dFor, dISeq, dIRng1, dIRng2, dIZip, dLc, dDc,   qAdd, qInt, qInt0, qSub, qMul, qDiv, qMod, qPow, qLt, qLe, qGt, qGe, qIs, qIsNot, qIx, qLen, qAbs, qMax, qMin, qSum, qAll, qAny, qInt_, qStr_, qList_, qTuple_, qDict_, qIsi, qSet, iAdd, iSub, iMul, iDiv, iMod,   mAppend, mExtend, mPop, truD, tyN, isTy, seqD, lstD, keyD, isNonD,   kit_ii, kit_bi, kit_si, kit_ti, kit_li, kit_di, kit_ni, kit_ib, kit_bb, kit_sb, kit_tb, kit_lb, kit_nb, kit_is, kit_ss, kit_ts, kit_ls, kit_ns, kit_it, kit_st, kit_tt, kit_lt, kit_nt, kit_il, kit_tl, kit_ll, kit_dl, kit_nl, kit_dd, kit_nd, kit_ld,   startD, wipeD, List.map_cons, List.map_nil, List.length_cons, List.length_nil, Nat.reduceAdd, Nat.reduceSub, List.replicate_succ, List.replicate_zero, List.cons_append, List.nil_append, List.getElem?_cons_zero, List.getElem?_cons_succ, List.set_cons_zero, List.set_cons_succ,   List.length_append, List.length_set, set_get, Option.map_some, List.set_set, atI_0, atI_1, atI_2, atI_3, atI_4, atI_5, atI_6, List.append_assoc, Nat.add_assoc, getK, getK0, getL, setK, setK0, setL, List.length_map, mJoin, mIndex, mCount, mGet, strsOf, intsOf, blsOf, Option.bind_some, intsD_map, strsD_map, blsD_map, Option.isSome_some, szl, Nat.reduceLeDiff, qEq_ii, qNe_ii, Bool.not_true, Bool.not_false, decT, decF, dDelT, dDisp, dPairs, dFld, dFldS, dMeth, dMake, dIEnum, dAugK, dNever, dListRev, dListRg1, dPar, dListZip, dForD, mSetd, dRaise, dCallX, dMethX, dMakeX, dTryOnly, dTryAs, wipeE, qIsE, clsVal, clsVals, PySem.W.kitAny, eq_self, true_and]
        exact ih _ _ ⟨ps ++ [p], qs, G, _, _, by rw [hps, List.append_assoc]; rfl, hnext, rfl, rfl⟩
    · cases due with
      | false =>
        obtain ⟨θ, hθ⟩ := hex
        exact absurd hθ.same (h5 rfl θ)
      | true =>
        have := hu [] (by rw [h4 rfl])
        rw [fill_nil, fill_nil] at this
        rw [this, Tm.size_var] at hm
        omega
  · rintro r M' ⟨ps, qs, G, u, v, hps, hi, rfl, rfl⟩
    refine ⟨hX _ _, ?_⟩
    dsimp only
    try simp only [dSeq, dAsg, dgName, dgTup, dgCons, dgNil, dgSub, dRet, dRetN, dIfS, dDrop, dNext, dBreak, dCont, dAug, dVar, dC, dBin, dTest, dChain, dTru, dNotT, dAndT, dOrT, dAndV, dOrV, dNotV, dIf, dNil, dCons, dTup, dLst, dNewDict, dNeg, dCB, dBM, dBM0, dCall, dYes,   dSl, dNoPart, dPart, qSl, dBack, qBack, dFor, dISeq, dIRng1, dIRng2, dIZip, dLc, dDc,   qAdd, qInt, qInt0, qSub, qMul, qDiv, qMod, qPow, qLt, qLe, qGt, qGe, qIs, qIsNot, qIx, qLen, qAbs, qMax, qMin, qSum, qAll, qAny, qInt_, qStr_, qList_, qTuple_, qDict_, qIsi, qSet, iAdd, iSub, iMul, iDiv, iMod,   mAppend, mExtend, mPop, truD, tyN, isTy, seqD, lstD, keyD, isNonD,   kit_ii, kit_bi, kit_si, kit_ti, kit_li, kit_di, kit_ni, kit_ib, kit_bb, kit_sb, kit_tb, kit_lb, kit_nb, kit_is, kit_ss, kit_ts, kit_ls, kit_ns, kit_it, kit_st, kit_tt, kit_lt, kit_nt, kit_il, kit_tl, kit_ll, kit_dl, kit_nl, kit_dd, kit_nd, kit_ld,   startD, wipeD, List.map_cons, List.map_nil, List.length_cons, List.length_nil, Nat.reduceAdd, Nat.reduceSub, List.replicate_succ, List.replicate_zero, List.cons_append, List.nil_append, List.getElem?_cons_zero, List.getElem?_cons_succ, List.set_cons_zero, List.set_cons_succ,   List.length_append, List.length_set, set_get, Option.map_some, List.set_set, atI_0, atI_1, atI_2, atI_3, atI_4, atI_5, atI_6, List.append_assoc, Nat.add_assoc, getK, getK0, getL, setK, setK0, setL, List.length_map, mJoin, mIndex, mCount, mGet, strsOf, intsOf, blsOf, Option.bind_some, intsD_map, strsD_map, blsD_map, Option.isSome_some, szl, Nat.reduceLeDiff, qEq_ii, qNe_ii, Bool.not_true, Bool.not_false, decT, decF, dDelT, dDisp, dPairs, dFld, dFldS, dMeth, dMake, dIEnum, dAugK, dNever, dListRev, dListRg1, dPar, dListZip, dForD, mSetd, dRaise, dCallX, dMethX, dMakeX, dTryOnly, dTryAs, wipeE, qIsE, clsVal, clsVals, PySem.W.kitAny, eq_self, true_and]
    exact Done.old hM (takeK rfl) rfl q
end
section
variable {P : Program} {w : World} {K : PySem.W.Frag} {mg : Str → Option Value} {base : Heap}
theorem fill_flat {t : Tm} (h : t.flat = []) (θ : Fl) : t.fill θ = t := by
  revert h
  refine Tm.ind (P := fun t => t.flat = [] → t.fill θ = t) (fun i h => ?_) (fun f ts ih h => ?_) t
  · rw [Tm.flat_var] at h; cases h
  · rw [Tm.fill_app]
    congr 1
    rw [Tm.flat_app] at h
    have : ∀ u ∈ ts, u.fill θ = u := fun u hu => ih u hu (by
      cases e : u.flat with
      | nil => rfl
      | cons i l =>
        have := flats_mem hu (i := i) (by rw [e]; exact List.mem_cons_self ..)
        rw [h] at this
        cases this)
    rw [List.map_congr_left this, List.map_id']
theorem flats_of {i : Int} : ∀ {ts : List Tm}, i ∈ Tm.flats ts → ∃ a ∈ ts, i ∈ a.flat
  | [], h => by rw [Tm.flats_nil] at h; cases h
  | b :: us, h => by
    rw [Tm.flats_cons] at h
    rcases List.mem_append.mp h with h | h
    · exact ⟨b, List.mem_cons_self .., h⟩
    · obtain ⟨a, ha, hia⟩ := flats_of h
      exact ⟨a, List.mem_cons_of_mem _ ha, hia⟩
theorem over_nil {ss : List Sg} {t : Tm} (h : Over ss [] t) : t.flat = [] := by
  have key : ∀ i ∈ t.flat, False := by
    induction h with
    | var h => cases h
    | @app s ts hs ha _ ih =>
      intro i hi
      rw [Tm.flat_app] at hi
      obtain ⟨a, ha, hi⟩ : ∃ a ∈ ts, i ∈ a.flat := by
        exact flats_of hi
      exact ih a ha i hi
  exact List.eq_nil_iff_forall_not_mem.mpr key
theorem put_flat {new : Tm} {i : Int} (hi : i ∈ new.flat) : ∀ (p : List Nat) {t v : Tm}, t.at_ p = some v → i ∈ (Tm.put new p t).flat
  | [], t, v, _ => by rw [Tm.put_nil]; exact hi
  | k :: p, t, v, h => by
    obtain ⟨f, ts, u, rfl, hk, hu, hv⟩ := Tm.at_cons h
    rw [Tm.put_app hu, Tm.flat_app]
    have hkl := (List.getElem?_eq_some_iff.mp hu).1
    refine flats_mem (u := Tm.put new p u) ?_ (put_flat hi p hv)
    have h0 : (ts.set (k - 1) (Tm.put new p u))[k - 1]? = some (Tm.put new p u) := List.getElem?_set_self hkl
    exact List.mem_of_getElem? h0
theorem fn_law (T : Top K mg) {fd : FuncData} (F : FnP K "law" "law" s_law (He.ga K "law") fd) : FnOk P w K mg base CX0 40 (He.ga K "law") fd ["_law_script"] (liftSp K spLaw) := by
  have F__law_dice := fn_dice (P := P) (w := w) (base := base) T
  have F__law_cell := fn_cell (P := P) (w := w) (base := base) T
  have F__law_signs := fn_signs (P := P) (w := w) (base := base) T
  have F__law_term := fn_term (P := P) (w := w) (base := base) T 3
  have F__law_two := fn_two (P := P) (w := w) (base := base) T
  have F__law_places := fn_places (P := P) (w := w) (base := base) T 12
  have F__law_put := fn_put (P := P) (w := w) (base := base) T 12
  have F__law_right := fn_right (P := P) (w := w) (base := base) T
  have sc := sc_law
  refine fnok_of F sc ?len ⟨_, fun cdv A outer s H E m0 hr => (
      (dss_cons (ds_set 1 sc.nd (de_call F__law_signs (hr.mono (by omega)) pass0 (da_cons (de_call F__law_dice (hr.mono (by omega)) pass0 (da_cons (de_var 0) (da_cons de_int da_nil))) da_nil)))
      (dss_cons (ds_asg (de_call F__law_two (hr.mono (by omega)) pass0 (da_cons (de_call F__law_dice (hr.mono (by omega)) pass0 (da_cons (de_var 0) (da_cons de_int da_nil))) (da_cons (de_var 1) (da_cons (de_lst da_nil) da_nil)))) (dg_tup (n := 2) rfl (dgs_cons (dg_name 2 sc.nd) (dgs_cons (dg_name 3 sc.nd) dgs_nil))))
      (dss_cons (ds_if (dt_not (dt_e (de_call F__law_right (hr.mono (by omega)) pass0 (da_cons (de_var 2) (da_cons (de_var 3) (da_cons (de_cmp (dop_eq hr) (de_var 2) (de_var 3)) da_nil)))))) (dss_one (ds_ret de_bl)) dss_nil)
      (dss_cons (ds_set 4 sc.nd (de_ix hr (de_lst (da_cons de_int (da_cons de_int (da_cons de_int da_nil)))) (de_bin dop_mod (de_cb T.n_abs dc_abs b_abs (da_cons (de_call F__law_cell (hr.mono (by omega)) pass0 (da_cons (de_var 0) (da_cons de_int da_nil))) da_nil)) de_int)))
      (dss_cons (ds_set 5 sc.nd (de_call F__law_term (hr.mono (by omega)) pass0 (da_cons (de_call F__law_dice (hr.mono (by omega)) pass0 (da_cons (de_var 0) (da_cons de_int da_nil))) (da_cons (de_var 1) (da_cons de_int (da_cons (de_lst (da_cons (de_var 4) (da_cons de_int da_nil))) da_nil))))))
      (dss_cons (ds_set 6 sc.nd (de_call F__law_places (hr.mono (by omega)) pass0 (da_cons (de_var 5) da_nil)))
      (dss_cons (ds_set 5 sc.nd (de_call F__law_put (hr.mono (by omega)) pass0 (da_cons (de_var 5) (da_cons (de_ix hr (de_var 6) (de_bin dop_mod (de_cb T.n_abs dc_abs b_abs (da_cons (de_call F__law_cell (hr.mono (by omega)) pass0 (da_cons (de_var 0) (da_cons de_int da_nil))) da_nil)) (de_cb T.n_len dc_len b_len (da_cons (de_var 6) da_nil)))) (da_cons (de_var 4) da_nil)))))
      (dss_one (ds_ret (de_call F__law_right (hr.mono (by omega)) pass0 (da_cons (de_var 4) (da_cons (de_var 5) (da_cons (de_cmp (dop_eq hr) (de_var 5) (de_var 4)) da_nil)))))))))))))), ?_⟩
  case len =>
    rintro ds M Q E ⟨sc, rfl, _⟩
    rfl
  rintro ds M Qd Ed ⟨sc, rfl, hsc, rfl, q⟩ hM
  try simp only [dSeq, dAsg, dgName, dgTup, dgCons, dgNil, dgSub, dRet, dRetN, dIfS, dDrop, dNext, dBreak, dCont, dAug, dVar, dC, dBin, dTest, dChain, dTru, dNotT, dAndT, dOrT, dAndV, dOrV, dNotV, dIf, dNil, dCons, dTup, dLst, dNewDict, dNeg, dCB, dBM, dBM0, dCall, dYes,   dSl, dNoPart, dPart, qSl, dBack, qBack, dFor, dISeq, dIRng1, dIRng2, dIZip, dLc, dDc,   qAdd, qInt, qInt0, qSub, qMul, qDiv, qMod, qPow, qLt, qLe, qGt, qGe, qIs, qIsNot, qIx, qLen, qAbs, qMax, qMin, qSum, qAll, qAny, qInt_, qStr_, qList_, qTuple_, qDict_, qIsi, qSet, iAdd, iSub, iMul, iDiv, iMod,   mAppend, mExtend, mPop, truD, tyN, isTy, seqD, lstD, keyD, isNonD,   kit_ii, kit_bi, kit_si, kit_ti, kit_li, kit_di, kit_ni, kit_ib, kit_bb, kit_sb, kit_tb, kit_lb, kit_nb, kit_is, kit_ss, kit_ts, kit_ls, kit_ns, kit_it, kit_st, kit_tt, kit_lt, kit_nt, kit_il, kit_tl, kit_ll, kit_dl, kit_nl, kit_dd, kit_nd, kit_ld,   startD, wipeD, List.map_cons, List.map_nil, List.length_cons, List.length_nil, Nat.reduceAdd, Nat.reduceSub, List.replicate_succ, List.replicate_zero, List.cons_append, List.nil_append, List.getElem?_cons_zero, List.getElem?_cons_succ, List.set_cons_zero, List.set_cons_succ,   List.length_append, List.length_set, set_get, Option.map_some, List.set_set, atI_0, atI_1, atI_2, atI_3, atI_4, atI_5, atI_6, List.append_assoc, Nat.add_assoc, getK, getK0, getL, setK, setK0, setL, List.length_map, mJoin, mIndex, mCount, mGet, strsOf, intsOf, blsOf, Option.bind_some, intsD_map, strsD_map, blsD_map, Option.isSome_some, szl, Nat.reduceLeDiff, qEq_ii, qNe_ii, Bool.not_true, Bool.not_false, decT, decF, dDelT, dDisp, dPairs, dFld, dFldS, dMeth, dMake, dIEnum, dAugK, dNever, dListRev, dListRg1, dPar, dListZip, dForD, mSetd, dRaise, dCallX, dMethX, dMakeX, dTryOnly, dTryAs, wipeE, qIsE, clsVal, clsVals, PySem.W.kitAny, eq_self, true_and]
  refine ⟨sc, 0, rfl, by decide, fun o1 ho1 => ?_⟩
  try simp only [dSeq, dAsg, dgName, dgTup, dgCons, dgNil, dgSub, dRet, dRetN, dIfS, dDrop, dNext, dBreak, dCont, dAug, dVar, dC, dBin, dTest, dChain, dTru, dNotT, dAndT, dOrT, dAndV, dOrV, dNotV, dIf, dNil, dCons, dTup, dLst, dNewDict, dNeg, dCB, dBM, dBM0, dCall, dYes,   dSl, dNoPart, dPart, qSl, dBack, qBack, dFor, dISeq, dIRng1, dIRng2, dIZip, dLc, dDc,   qAdd, qInt, qInt0, qSub, qMul, qDiv, qMod, qPow, qLt, qLe, qGt, qGe, qIs, qIsNot, qIx, qLen, qAbs, qMax, qMin, qSum, qAll, qAny, qInt_, qStr_, qList_, qTuple_, qDict_, qIsi, qSet, iAdd, iSub, iMul, iDiv, iMod,   mAppend, mExtend, mPop, truD, tyN, isTy, seqD, lstD, keyD, isNonD,   kit_ii, kit_bi, kit_si, kit_ti, kit_li, kit_di, kit_ni, kit_ib, kit_bb, kit_sb, kit_tb, kit_lb, kit_nb, kit_is, kit_ss, kit_ts, kit_ls, kit_ns, kit_it, kit_st, kit_tt, kit_lt, kit_nt, kit_il, kit_tl, kit_ll, kit_dl, kit_nl, kit_dd, kit_nd, kit_ld,   startD, wipeD, List.map_cons, List.map_nil, List.length_cons, List.length_nil, Nat.reduceAdd, Nat.reduceSub, List.replicate_succ, List.replicate_zero, List.cons_append, List.nil_append, List.getElem?_cons_zero, List.getElem?_cons_succ, List.set_cons_zero, List.set_cons_succ,   List.length_append, List.length_set, set_get, Option.map_some, List.set_set, atI_0, atI_1, atI_2, atI_3, atI_4, atI_5, atI_6, List.append_assoc, Nat.add_assoc, getK, getK0, getL, setK, setK0, setL, List.length_map, mJoin, mIndex, mCount, mGet, strsOf, intsOf, blsOf, Option.bind_some, intsD_map, strsD_map, blsD_map, Option.isSome_some, szl, Nat.reduceLeDiff, qEq_ii, qNe_ii, Bool.not_true, Bool.not_false, decT, decF, dDelT, dDisp, dPairs, dFld, dFldS, dMeth, dMake, dIEnum, dAugK, dNever, dListRev, dListRg1, dPar, dListZip, dForD, mSetd, dRaise, dCallX, dMethX, dMakeX, dTryOnly, dTryAs, wipeE, qIsE, clsVal, clsVals, PySem.W.kitAny, eq_self, true_and]
  refine ⟨0, rfl, ⟨o1, rfl, ho1⟩, fun o1 ss ho1 hss => ?_⟩
  try simp only [dSeq, dAsg, dgName, dgTup, dgCons, dgNil, dgSub, dRet, dRetN, dIfS, dDrop, dNext, dBreak, dCont, dAug, dVar, dC, dBin, dTest, dChain, dTru, dNotT, dAndT, dOrT, dAndV, dOrV, dNotV, dIf, dNil, dCons, dTup, dLst, dNewDict, dNeg, dCB, dBM, dBM0, dCall, dYes,   dSl, dNoPart, dPart, qSl, dBack, qBack, dFor, dISeq, dIRng1, dIRng2, dIZip, dLc, dDc,   qAdd, qInt, qInt0, qSub, qMul, qDiv, qMod, qPow, qLt, qLe, qGt, qGe, qIs, qIsNot, qIx, qLen, qAbs, qMax, qMin, qSum, qAll, qAny, qInt_, qStr_, qList_, qTuple_, qDict_, qIsi, qSet, iAdd, iSub, iMul, iDiv, iMod,   mAppend, mExtend, mPop, truD, tyN, isTy, seqD, lstD, keyD, isNonD,   kit_ii, kit_bi, kit_si, kit_ti, kit_li, kit_di, kit_ni, kit_ib, kit_bb, kit_sb, kit_tb, kit_lb, kit_nb, kit_is, kit_ss, kit_ts, kit_ls, kit_ns, kit_it, kit_st, kit_tt, kit_lt, kit_nt, kit_il, kit_tl, kit_ll, kit_dl, kit_nl, kit_dd, kit_nd, kit_ld,   startD, wipeD, List.map_cons, List.map_nil, List.length_cons, List.length_nil, Nat.reduceAdd, Nat.reduceSub, List.replicate_succ, List.replicate_zero, List.cons_append, List.nil_append, List.getElem?_cons_zero, List.getElem?_cons_succ, List.set_cons_zero, List.set_cons_succ,   List.length_append, List.length_set, set_get, Option.map_some, List.set_set, atI_0, atI_1, atI_2, atI_3, atI_4, atI_5, atI_6, List.append_assoc, Nat.add_assoc, getK, getK0, getL, setK, setK0, setL, List.length_map, mJoin, mIndex, mCount, mGet, strsOf, intsOf, blsOf, Option.bind_some, intsD_map, strsD_map, blsD_map, Option.isSome_some, szl, Nat.reduceLeDiff, qEq_ii, qNe_ii, Bool.not_true, Bool.not_false, decT, decF, dDelT, dDisp, dPairs, dFld, dFldS, dMeth, dMake, dIEnum, dAugK, dNever, dListRev, dListRg1, dPar, dListZip, dForD, mSetd, dRaise, dCallX, dMethX, dMakeX, dTryOnly, dTryAs, wipeE, qIsE, clsVal, clsVals, PySem.W.kitAny, eq_self, true_and]
  refine ⟨sc, 1, rfl, by decide, fun o2 ho2 => ?_⟩
  try simp only [dSeq, dAsg, dgName, dgTup, dgCons, dgNil, dgSub, dRet, dRetN, dIfS, dDrop, dNext, dBreak, dCont, dAug, dVar, dC, dBin, dTest, dChain, dTru, dNotT, dAndT, dOrT, dAndV, dOrV, dNotV, dIf, dNil, dCons, dTup, dLst, dNewDict, dNeg, dCB, dBM, dBM0, dCall, dYes,   dSl, dNoPart, dPart, qSl, dBack, qBack, dFor, dISeq, dIRng1, dIRng2, dIZip, dLc, dDc,   qAdd, qInt, qInt0, qSub, qMul, qDiv, qMod, qPow, qLt, qLe, qGt, qGe, qIs, qIsNot, qIx, qLen, qAbs, qMax, qMin, qSum, qAll, qAny, qInt_, qStr_, qList_, qTuple_, qDict_, qIsi, qSet, iAdd, iSub, iMul, iDiv, iMod,   mAppend, mExtend, mPop, truD, tyN, isTy, seqD, lstD, keyD, isNonD,   kit_ii, kit_bi, kit_si, kit_ti, kit_li, kit_di, kit_ni, kit_ib, kit_bb, kit_sb, kit_tb, kit_lb, kit_nb, kit_is, kit_ss, kit_ts, kit_ls, kit_ns, kit_it, kit_st, kit_tt, kit_lt, kit_nt, kit_il, kit_tl, kit_ll, kit_dl, kit_nl, kit_dd, kit_nd, kit_ld,   startD, wipeD, List.map_cons, List.map_nil, List.length_cons, List.length_nil, Nat.reduceAdd, Nat.reduceSub, List.replicate_succ, List.replicate_zero, List.cons_append, List.nil_append, List.getElem?_cons_zero, List.getElem?_cons_succ, List.set_cons_zero, List.set_cons_succ,   List.length_append, List.length_set, set_get, Option.map_some, List.set_set, atI_0, atI_1, atI_2, atI_3, atI_4, atI_5, atI_6, List.append_assoc, Nat.add_assoc, getK, getK0, getL, setK, setK0, setL, List.length_map, mJoin, mIndex, mCount, mGet, strsOf, intsOf, blsOf, Option.bind_some, intsD_map, strsD_map, blsD_map, Option.isSome_some, szl, Nat.reduceLeDiff, qEq_ii, qNe_ii, Bool.not_true, Bool.not_false, decT, decF, dDelT, dDisp, dPairs, dFld, dFldS, dMeth, dMake, dIEnum, dAugK, dNever, dListRev, dListRg1, dPar, dListZip, dForD, mSetd, dRaise, dCallX, dMethX, dMakeX, dTryOnly, dTryAs, wipeE, qIsE, clsVal, clsVals, PySem.W.kitAny, eq_self, true_and]
  refine ⟨2, 1, 3, ss, [], rfl, ⟨o2, rfl, ho2⟩, by decide, by decide, rfl, rfl, hss, by decide, fun o2 s t ho2 hs ht hsd htd hsz htz => ?_⟩
  have hsn := hs.nm hss
  have htn := ht.nm hss
  try simp only [dSeq, dAsg, dgName, dgTup, dgCons, dgNil, dgSub, dRet, dRetN, dIfS, dDrop, dNext, dBreak, dCont, dAug, dVar, dC, dBin, dTest, dChain, dTru, dNotT, dAndT, dOrT, dAndV, dOrV, dNotV, dIf, dNil, dCons, dTup, dLst, dNewDict, dNeg, dCB, dBM, dBM0, dCall, dYes,   dSl, dNoPart, dPart, qSl, dBack, qBack, dFor, dISeq, dIRng1, dIRng2, dIZip, dLc, dDc,   qAdd, qInt, qInt0, qSub, qMul, qDiv, qMod, qPow, qLt, qLe, qGt, qGe, qIs, qIsNot, qIx, qLen, qAbs, qMax, qMin, qSum, qAll, qAny, qInt_, qStr_, qList_, qTuple_, qDict_, qIsi, qSet, iAdd, iSub, iMul, iDiv, iMod,   mAppend, mExtend, mPop, truD, tyN, isTy, seqD, lstD, keyD, isNonD,   kit_ii, kit_bi, kit_si, kit_ti, kit_li, kit_di, kit_ni, kit_ib, kit_bb, kit_sb, kit_tb, kit_lb, kit_nb, kit_is, kit_ss, kit_ts, kit_ls, kit_ns, kit_it, kit_st, kit_tt, kit_lt, kit_nt, kit_il, kit_tl, kit_ll, kit_dl, kit_nl, kit_dd, kit_nd, kit_ld,   startD, wipeD, List.map_cons, List.map_nil, List.length_cons, List.length_nil, Nat.reduceAdd, Nat.reduceSub, List.replicate_succ, List.replicate_zero, List.cons_append, List.nil_append, List.getElem?_cons_zero, List.getElem?_cons_succ, List.set_cons_zero, List.set_cons_succ,   List.length_append, List.length_set, set_get, Option.map_some, List.set_set, atI_0, atI_1, atI_2, atI_3, atI_4, atI_5, atI_6, List.append_assoc, Nat.add_assoc, getK, getK0, getL, setK, setK0, setL, List.length_map, mJoin, mIndex, mCount, mGet, strsOf, intsOf, blsOf, Option.bind_some, intsD_map, strsD_map, blsD_map, Option.isSome_some, szl, Nat.reduceLeDiff, qEq_ii, qNe_ii, Bool.not_true, Bool.not_false, decT, decF, dDelT, dDisp, dPairs, dFld, dFldS, dMeth, dMake, dIEnum, dAugK, dNever, dListRev, dListRg1, dPar, dListZip, dForD, mSetd, dRaise, dCallX, dMethX, dMakeX, dTryOnly, dTryAs, wipeE, qIsE, clsVal, clsVals, PySem.W.kitAny, eq_self, true_and]
  refine qEq_pl (Tm.pl hsn) (Tm.pl htn) (.inl (by rw [Tm.dep]; omega)) fun b hb => ?_
  try simp only [dSeq, dAsg, dgName, dgTup, dgCons, dgNil, dgSub, dRet, dRetN, dIfS, dDrop, dNext, dBreak, dCont, dAug, dVar, dC, dBin, dTest, dChain, dTru, dNotT, dAndT, dOrT, dAndV, dOrV, dNotV, dIf, dNil, dCons, dTup, dLst, dNewDict, dNeg, dCB, dBM, dBM0, dCall, dYes,   dSl, dNoPart, dPart, qSl, dBack, qBack, dFor, dISeq, dIRng1, dIRng2, dIZip, dLc, dDc,   qAdd, qInt, qInt0, qSub, qMul, qDiv, qMod, qPow, qLt, qLe, qGt, qGe, qIs, qIsNot, qIx, qLen, qAbs, qMax, qMin, qSum, qAll, qAny, qInt_, qStr_, qList_, qTuple_, qDict_, qIsi, qSet, iAdd, iSub, iMul, iDiv, iMod,   mAppend, mExtend, mPop, truD, tyN, isTy, seqD, lstD, keyD, isNonD,   kit_ii, kit_bi, kit_si, kit_ti, kit_li, kit_di, kit_ni, kit_ib, kit_bb, kit_sb, kit_tb, kit_lb, kit_nb, kit_is, kit_ss, kit_ts, kit_ls, kit_ns, kit_it, kit_st, kit_tt, kit_lt, kit_nt, kit_il, kit_tl, kit_ll, kit_dl, kit_nl, kit_dd, kit_nd, kit_ld,   startD, wipeD, List.map_cons, List.map_nil, List.length_cons, List.length_nil, Nat.reduceAdd, Nat.reduceSub, List.replicate_succ, List.replicate_zero, List.cons_append, List.nil_append, List.getElem?_cons_zero, List.getElem?_cons_succ, List.set_cons_zero, List.set_cons_succ,   List.length_append, List.length_set, set_get, Option.map_some, List.set_set, atI_0, atI_1, atI_2, atI_3, atI_4, atI_5, atI_6, List.append_assoc, Nat.add_assoc, getK, getK0, getL, setK, setK0, setL, List.length_map, mJoin, mIndex, mCount, mGet, strsOf, intsOf, blsOf, Option.bind_some, intsD_map, strsD_map, blsD_map, Option.isSome_some, szl, Nat.reduceLeDiff, qEq_ii, qNe_ii, Bool.not_true, Bool.not_false, decT, decF, dDelT, dDisp, dPairs, dFld, dFldS, dMeth, dMake, dIEnum, dAugK, dNever, dListRev, dListRg1, dPar, dListZip, dForD, mSetd, dRaise, dCallX, dMethX, dMakeX, dTryOnly, dTryAs, wipeE, qIsE, clsVal, clsVals, PySem.W.kitAny, eq_self, true_and]
  refine ⟨s, t, b, rfl, hsn, htn, by omega, by omega, fun h => Tm.d_inj (hb.mp h), fun h θ e => ?_, ?_⟩
  · rw [fill_flat (over_nil hs), fill_flat (over_nil ht)] at e
    rw [hb.mpr (by rw [e])] at h
    cases h
  try simp only [dSeq, dAsg, dgName, dgTup, dgCons, dgNil, dgSub, dRet, dRetN, dIfS, dDrop, dNext, dBreak, dCont, dAug, dVar, dC, dBin, dTest, dChain, dTru, dNotT, dAndT, dOrT, dAndV, dOrV, dNotV, dIf, dNil, dCons, dTup, dLst, dNewDict, dNeg, dCB, dBM, dBM0, dCall, dYes,   dSl, dNoPart, dPart, qSl, dBack, qBack, dFor, dISeq, dIRng1, dIRng2, dIZip, dLc, dDc,   qAdd, qInt, qInt0, qSub, qMul, qDiv, qMod, qPow, qLt, qLe, qGt, qGe, qIs, qIsNot, qIx, qLen, qAbs, qMax, qMin, qSum, qAll, qAny, qInt_, qStr_, qList_, qTuple_, qDict_, qIsi, qSet, iAdd, iSub, iMul, iDiv, iMod,   mAppend, mExtend, mPop, truD, tyN, isTy, seqD, lstD, keyD, isNonD,   kit_ii, kit_bi, kit_si, kit_ti, kit_li, kit_di, kit_ni, kit_ib, kit_bb, kit_sb, kit_tb, kit_lb, kit_nb, kit_is, kit_ss, kit_ts, kit_ls, kit_ns, kit_it, kit_st, kit_tt, kit_lt, kit_nt, kit_il, kit_tl, kit_ll, kit_dl, kit_nl, kit_dd, kit_nd, kit_ld,   startD, wipeD, List.map_cons, List.map_nil, List.length_cons, List.length_nil, Nat.reduceAdd, Nat.reduceSub, List.replicate_succ, List.replicate_zero, List.cons_append, List.nil_append, List.getElem?_cons_zero, List.getElem?_cons_succ, List.set_cons_zero, List.set_cons_succ,   List.length_append, List.length_set, set_get, Option.map_some, List.set_set, atI_0, atI_1, atI_2, atI_3, atI_4, atI_5, atI_6, List.append_assoc, Nat.add_assoc, getK, getK0, getL, setK, setK0, setL, List.length_map, mJoin, mIndex, mCount, mGet, strsOf, intsOf, blsOf, Option.bind_some, intsD_map, strsD_map, blsD_map, Option.isSome_some, szl, Nat.reduceLeDiff, qEq_ii, qNe_ii, Bool.not_true, Bool.not_false, decT, decF, dDelT, dDisp, dPairs, dFld, dFldS, dMeth, dMake, dIEnum, dAugK, dNever, dListRev, dListRg1, dPar, dListZip, dForD, mSetd, dRaise, dCallX, dMethX, dMakeX, dTryOnly, dTryAs, wipeE, qIsE, clsVal, clsVals, PySem.W.kitAny, eq_self, true_and]
  refine ⟨sc, 3, rfl, by decide, fun c3 => ?_⟩
  try simp only [dSeq, dAsg, dgName, dgTup, dgCons, dgNil, dgSub, dRet, dRetN, dIfS, dDrop, dNext, dBreak, dCont, dAug, dVar, dC, dBin, dTest, dChain, dTru, dNotT, dAndT, dOrT, dAndV, dOrV, dNotV, dIf, dNil, dCons, dTup, dLst, dNewDict, dNeg, dCB, dBM, dBM0, dCall, dYes,   dSl, dNoPart, dPart, qSl, dBack, qBack, dFor, dISeq, dIRng1, dIRng2, dIZip, dLc, dDc,   qAdd, qInt, qInt0, qSub, qMul, qDiv, qMod, qPow, qLt, qLe, qGt, qGe, qIs, qIsNot, qIx, qLen, qAbs, qMax, qMin, qSum, qAll, qAny, qInt_, qStr_, qList_, qTuple_, qDict_, qIsi, qSet, iAdd, iSub, iMul, iDiv, iMod,   mAppend, mExtend, mPop, truD, tyN, isTy, seqD, lstD, keyD, isNonD,   kit_ii, kit_bi, kit_si, kit_ti, kit_li, kit_di, kit_ni, kit_ib, kit_bb, kit_sb, kit_tb, kit_lb, kit_nb, kit_is, kit_ss, kit_ts, kit_ls, kit_ns, kit_it, kit_st, kit_tt, kit_lt, kit_nt, kit_il, kit_tl, kit_ll, kit_dl, kit_nl, kit_dd, kit_nd, kit_ld,   startD, wipeD, List.map_cons, List.map_nil, List.length_cons, List.length_nil, Nat.reduceAdd, Nat.reduceSub, List.replicate_succ, List.replicate_zero, List.cons_append, List.nil_append, List.getElem?_cons_zero, List.getElem?_cons_succ, List.set_cons_zero, List.set_cons_succ,   List.length_append, List.length_set, set_get, Option.map_some, List.set_set, atI_0, atI_1, atI_2, atI_3, atI_4, atI_5, atI_6, List.append_assoc, Nat.add_assoc, getK, getK0, getL, setK, setK0, setL, List.length_map, mJoin, mIndex, mCount, mGet, strsOf, intsOf, blsOf, Option.bind_some, intsD_map, strsD_map, blsD_map, Option.isSome_some, szl, Nat.reduceLeDiff, qEq_ii, qNe_ii, Bool.not_true, Bool.not_false, decT, decF, dDelT, dDisp, dPairs, dFld, dFldS, dMeth, dMake, dIEnum, dAugK, dNever, dListRev, dListRg1, dPar, dListZip, dForD, mSetd, dRaise, dCallX, dMethX, dMakeX, dTryOnly, dTryAs, wipeE, qIsE, clsVal, clsVals, PySem.W.kitAny, eq_self, true_and]
  refine ⟨by decide, ?_⟩
  have hy0 : 0 ≤ (if c3 < 0 then -c3 else c3) % 3 := Int.emod_nonneg _ (by decide)
  have hy1 : (if c3 < 0 then -c3 else c3) % 3 < (([0, 7, 999] : List Int).length : Int) := Int.emod_lt_of_pos _ (by decide)
  obtain ⟨bl, hbl⟩ := atI_ints (ns := [0, 7, 999]) hy0 hy1
  have hbl : atI [D.int 0, D.int 7, D.int 999] ((if c3 < 0 then -c3 else c3) % 3) = some (.int bl) := hbl
  try simp only [dSeq, dAsg, dgName, dgTup, dgCons, dgNil, dgSub, dRet, dRetN, dIfS, dDrop, dNext, dBreak, dCont, dAug, dVar, dC, dBin, dTest, dChain, dTru, dNotT, dAndT, dOrT, dAndV, dOrV, dNotV, dIf, dNil, dCons, dTup, dLst, dNewDict, dNeg, dCB, dBM, dBM0, dCall, dYes,   dSl, dNoPart, dPart, qSl, dBack, qBack, dFor, dISeq, dIRng1, dIRng2, dIZip, dLc, dDc,   qAdd, qInt, qInt0, qSub, qMul, qDiv, qMod, qPow, qLt, qLe, qGt, qGe, qIs, qIsNot, qIx, qLen, qAbs, qMax, qMin, qSum, qAll, qAny, qInt_, qStr_, qList_, qTuple_, qDict_, qIsi, qSet, iAdd, iSub, iMul, iDiv, iMod,   mAppend, mExtend, mPop, truD, tyN, isTy, seqD, lstD, keyD, isNonD,   kit_ii, kit_bi, kit_si, kit_ti, kit_li, kit_di, kit_ni, kit_ib, kit_bb, kit_sb, kit_tb, kit_lb, kit_nb, kit_is, kit_ss, kit_ts, kit_ls, kit_ns, kit_it, kit_st, kit_tt, kit_lt, kit_nt, kit_il, kit_tl, kit_ll, kit_dl, kit_nl, kit_dd, kit_nd, kit_ld,   startD, wipeD, List.map_cons, List.map_nil, List.length_cons, List.length_nil, Nat.reduceAdd, Nat.reduceSub, List.replicate_succ, List.replicate_zero, List.cons_append, List.nil_append, List.getElem?_cons_zero, List.getElem?_cons_succ, List.set_cons_zero, List.set_cons_succ,   List.length_append, List.length_set, set_get, Option.map_some, List.set_set, atI_0, atI_1, atI_2, atI_3, atI_4, atI_5, atI_6, List.append_assoc, Nat.add_assoc, getK, getK0, getL, setK, setK0, setL, List.length_map, mJoin, mIndex, mCount, mGet, strsOf, intsOf, blsOf, Option.bind_some, intsD_map, strsD_map, blsD_map, Option.isSome_some, szl, Nat.reduceLeDiff, qEq_ii, qNe_ii, Bool.not_true, Bool.not_false, decT, decF, dDelT, dDisp, dPairs, dFld, dFldS, dMeth, dMake, dIEnum, dAugK, dNever, dListRev, dListRg1, dPar, dListZip, dForD, mSetd, dRaise, dCallX, dMethX, dMakeX, dTryOnly, dTryAs, wipeE, qIsE, clsVal, clsVals, PySem.W.kitAny, eq_self, true_and, hbl]
  refine ⟨sc, 2, rfl, by decide, fun o3 ho3 => ?_⟩
  try simp only [dSeq, dAsg, dgName, dgTup, dgCons, dgNil, dgSub, dRet, dRetN, dIfS, dDrop, dNext, dBreak, dCont, dAug, dVar, dC, dBin, dTest, dChain, dTru, dNotT, dAndT, dOrT, dAndV, dOrV, dNotV, dIf, dNil, dCons, dTup, dLst, dNewDict, dNeg, dCB, dBM, dBM0, dCall, dYes,   dSl, dNoPart, dPart, qSl, dBack, qBack, dFor, dISeq, dIRng1, dIRng2, dIZip, dLc, dDc,   qAdd, qInt, qInt0, qSub, qMul, qDiv, qMod, qPow, qLt, qLe, qGt, qGe, qIs, qIsNot, qIx, qLen, qAbs, qMax, qMin, qSum, qAll, qAny, qInt_, qStr_, qList_, qTuple_, qDict_, qIsi, qSet, iAdd, iSub, iMul, iDiv, iMod,   mAppend, mExtend, mPop, truD, tyN, isTy, seqD, lstD, keyD, isNonD,   kit_ii, kit_bi, kit_si, kit_ti, kit_li, kit_di, kit_ni, kit_ib, kit_bb, kit_sb, kit_tb, kit_lb, kit_nb, kit_is, kit_ss, kit_ts, kit_ls, kit_ns, kit_it, kit_st, kit_tt, kit_lt, kit_nt, kit_il, kit_tl, kit_ll, kit_dl, kit_nl, kit_dd, kit_nd, kit_ld,   startD, wipeD, List.map_cons, List.map_nil, List.length_cons, List.length_nil, Nat.reduceAdd, Nat.reduceSub, List.replicate_succ, List.replicate_zero, List.cons_append, List.nil_append, List.getElem?_cons_zero, List.getElem?_cons_succ, List.set_cons_zero, List.set_cons_succ,   List.length_append, List.length_set, set_get, Option.map_some, List.set_set, atI_0, atI_1, atI_2, atI_3, atI_4, atI_5, atI_6, List.append_assoc, Nat.add_assoc, getK, getK0, getL, setK, setK0, setL, List.length_map, mJoin, mIndex, mCount, mGet, strsOf, intsOf, blsOf, Option.bind_some, intsD_map, strsD_map, blsD_map, Option.isSome_some, szl, Nat.reduceLeDiff, qEq_ii, qNe_ii, Bool.not_true, Bool.not_false, decT, decF, dDelT, dDisp, dPairs, dFld, dFldS, dMeth, dMake, dIEnum, dAugK, dNever, dListRev, dListRg1, dPar, dListZip, dForD, mSetd, dRaise, dCallX, dMethX, dMakeX, dTryOnly, dTryAs, wipeE, qIsE, clsVal, clsVals, PySem.W.kitAny, eq_self, true_and]
  refine ⟨5, 1, 6, 2, ss, [bl, 1], rfl, by decide, by decide, ⟨o3, rfl, ho3⟩, by decide, by decide, rfl, rfl, hss, by simp, fun o3 u ho3 hu hud huz => ?_⟩
  have huz' : u.size ≤ 21 := huz 4 hss.ar
  try simp only [dSeq, dAsg, dgName, dgTup, dgCons, dgNil, dgSub, dRet, dRetN, dIfS, dDrop, dNext, dBreak, dCont, dAug, dVar, dC, dBin, dTest, dChain, dTru, dNotT, dAndT, dOrT, dAndV, dOrV, dNotV, dIf, dNil, dCons, dTup, dLst, dNewDict, dNeg, dCB, dBM, dBM0, dCall, dYes,   dSl, dNoPart, dPart, qSl, dBack, qBack, dFor, dISeq, dIRng1, dIRng2, dIZip, dLc, dDc,   qAdd, qInt, qInt0, qSub, qMul, qDiv, qMod, qPow, qLt, qLe, qGt, qGe, qIs, qIsNot, qIx, qLen, qAbs, qMax, qMin, qSum, qAll, qAny, qInt_, qStr_, qList_, qTuple_, qDict_, qIsi, qSet, iAdd, iSub, iMul, iDiv, iMod,   mAppend, mExtend, mPop, truD, tyN, isTy, seqD, lstD, keyD, isNonD,   kit_ii, kit_bi, kit_si, kit_ti, kit_li, kit_di, kit_ni, kit_ib, kit_bb, kit_sb, kit_tb, kit_lb, kit_nb, kit_is, kit_ss, kit_ts, kit_ls, kit_ns, kit_it, kit_st, kit_tt, kit_lt, kit_nt, kit_il, kit_tl, kit_ll, kit_dl, kit_nl, kit_dd, kit_nd, kit_ld,   startD, wipeD, List.map_cons, List.map_nil, List.length_cons, List.length_nil, Nat.reduceAdd, Nat.reduceSub, List.replicate_succ, List.replicate_zero, List.cons_append, List.nil_append, List.getElem?_cons_zero, List.getElem?_cons_succ, List.set_cons_zero, List.set_cons_succ,   List.length_append, List.length_set, set_get, Option.map_some, List.set_set, atI_0, atI_1, atI_2, atI_3, atI_4, atI_5, atI_6, List.append_assoc, Nat.add_assoc, getK, getK0, getL, setK, setK0, setL, List.length_map, mJoin, mIndex, mCount, mGet, strsOf, intsOf, blsOf, Option.bind_some, intsD_map, strsD_map, blsD_map, Option.isSome_some, szl, Nat.reduceLeDiff, qEq_ii, qNe_ii, Bool.not_true, Bool.not_false, decT, decF, dDelT, dDisp, dPairs, dFld, dFldS, dMeth, dMake, dIEnum, dAugK, dNever, dListRev, dListRg1, dPar, dListZip, dForD, mSetd, dRaise, dCallX, dMethX, dMakeX, dTryOnly, dTryAs, wipeE, qIsE, clsVal, clsVals, PySem.W.kitAny, eq_self, true_and]
  refine ⟨u, rfl, by omega, by omega, ?_⟩
  have hpl := u.places_len
  have hsp := u.size_pos
  try simp only [dSeq, dAsg, dgName, dgTup, dgCons, dgNil, dgSub, dRet, dRetN, dIfS, dDrop, dNext, dBreak, dCont, dAug, dVar, dC, dBin, dTest, dChain, dTru, dNotT, dAndT, dOrT, dAndV, dOrV, dNotV, dIf, dNil, dCons, dTup, dLst, dNewDict, dNeg, dCB, dBM, dBM0, dCall, dYes,   dSl, dNoPart, dPart, qSl, dBack, qBack, dFor, dISeq, dIRng1, dIRng2, dIZip, dLc, dDc,   qAdd, qInt, qInt0, qSub, qMul, qDiv, qMod, qPow, qLt, qLe, qGt, qGe, qIs, qIsNot, qIx, qLen, qAbs, qMax, qMin, qSum, qAll, qAny, qInt_, qStr_, qList_, qTuple_, qDict_, qIsi, qSet, iAdd, iSub, iMul, iDiv, iMod,   mAppend, mExtend, mPop, truD, tyN, isTy, seqD, lstD, keyD, isNonD,   kit_ii, kit_bi, kit_si, kit_ti, kit_li, kit_di, kit_ni, kit_ib, kit_bb, kit_sb, kit_tb, kit_lb, kit_nb, kit_is, kit_ss, kit_ts, kit_ls, kit_ns, kit_it, kit_st, kit_tt, kit_lt, kit_nt, kit_il, kit_tl, kit_ll, kit_dl, kit_nl, kit_dd, kit_nd, kit_ld,   startD, wipeD, List.map_cons, List.map_nil, List.length_cons, List.length_nil, Nat.reduceAdd, Nat.reduceSub, List.replicate_succ, List.replicate_zero, List.cons_append, List.nil_append, List.getElem?_cons_zero, List.getElem?_cons_succ, List.set_cons_zero, List.set_cons_succ,   List.length_append, List.length_set, set_get, Option.map_some, List.set_set, atI_0, atI_1, atI_2, atI_3, atI_4, atI_5, atI_6, List.append_assoc, Nat.add_assoc, getK, getK0, getL, setK, setK0, setL, List.length_map, mJoin, mIndex, mCount, mGet, strsOf, intsOf, blsOf, Option.bind_some, intsD_map, strsD_map, blsD_map, Option.isSome_some, szl, Nat.reduceLeDiff, qEq_ii, qNe_ii, Bool.not_true, Bool.not_false, decT, decF, dDelT, dDisp, dPairs, dFld, dFldS, dMeth, dMake, dIEnum, dAugK, dNever, dListRev, dListRg1, dPar, dListZip, dForD, mSetd, dRaise, dCallX, dMethX, dMakeX, dTryOnly, dTryAs, wipeE, qIsE, clsVal, clsVals, PySem.W.kitAny, eq_self, true_and]
  refine ⟨sc, 4, rfl, by decide, fun c4 => ?_⟩
  try simp only [dSeq, dAsg, dgName, dgTup, dgCons, dgNil, dgSub, dRet, dRetN, dIfS, dDrop, dNext, dBreak, dCont, dAug, dVar, dC, dBin, dTest, dChain, dTru, dNotT, dAndT, dOrT, dAndV, dOrV, dNotV, dIf, dNil, dCons, dTup, dLst, dNewDict, dNeg, dCB, dBM, dBM0, dCall, dYes,   dSl, dNoPart, dPart, qSl, dBack, qBack, dFor, dISeq, dIRng1, dIRng2, dIZip, dLc, dDc,   qAdd, qInt, qInt0, qSub, qMul, qDiv, qMod, qPow, qLt, qLe, qGt, qGe, qIs, qIsNot, qIx, qLen, qAbs, qMax, qMin, qSum, qAll, qAny, qInt_, qStr_, qList_, qTuple_, qDict_, qIsi, qSet, iAdd, iSub, iMul, iDiv, iMod,   mAppend, mExtend, mPop, truD, tyN, isTy, seqD, lstD, keyD, isNonD,   kit_ii, kit_bi, kit_si, kit_ti, kit_li, kit_di, kit_ni, kit_ib, kit_bb, kit_sb, kit_tb, kit_lb, kit_nb, kit_is, kit_ss, kit_ts, kit_ls, kit_ns, kit_it, kit_st, kit_tt, kit_lt, kit_nt, kit_il, kit_tl, kit_ll, kit_dl, kit_nl, kit_dd, kit_nd, kit_ld,   startD, wipeD, List.map_cons, List.map_nil, List.length_cons, List.length_nil, Nat.reduceAdd, Nat.reduceSub, List.replicate_succ, List.replicate_zero, List.cons_append, List.nil_append, List.getElem?_cons_zero, List.getElem?_cons_succ, List.set_cons_zero, List.set_cons_succ,   List.length_append, List.length_set, set_get, Option.map_some, List.set_set, atI_0, atI_1, atI_2, atI_3, atI_4, atI_5, atI_6, List.append_assoc, Nat.add_assoc, getK, getK0, getL, setK, setK0, setL, List.length_map, mJoin, mIndex, mCount, mGet, strsOf, intsOf, blsOf, Option.bind_some, intsD_map, strsD_map, blsD_map, Option.isSome_some, szl, Nat.reduceLeDiff, qEq_ii, qNe_ii, Bool.not_true, Bool.not_false, decT, decF, dDelT, dDisp, dPairs, dFld, dFldS, dMeth, dMake, dIEnum, dAugK, dNever, dListRev, dListRg1, dPar, dListZip, dForD, mSetd, dRaise, dCallX, dMethX, dMakeX, dTryOnly, dTryAs, wipeE, qIsE, clsVal, clsVals, PySem.W.kitAny, eq_self, true_and]
  refine ⟨by omega, ?_⟩
  have hr0 : 0 ≤ (if c4 < 0 then -c4 else c4) % (u.places.length : Int) := Int.emod_nonneg _ (by omega)
  have hr1 : (if c4 < 0 then -c4 else c4) % (u.places.length : Int) < (u.places.length : Int) := Int.emod_lt_of_pos _ (by omega)
  generalize (if c4 < 0 then -c4 else c4) % (u.places.length : Int) = r at hr0 hr1 ⊢
  obtain ⟨x, ex, ea⟩ := atI_lt (xs := u.places.map plcD) (i := r) hr0 (by rw [List.length_map]; omega)
  rw [List.getElem?_map] at ex
  obtain ⟨pl, hpl2, rfl⟩ := Option.map_eq_some_iff.mp ex
  have hmem := List.mem_of_getElem? hpl2
  obtain ⟨vv, hv⟩ := Tm.at_places pl hmem
  have hpd2 := Tm.place_len pl hmem
  try simp only [dSeq, dAsg, dgName, dgTup, dgCons, dgNil, dgSub, dRet, dRetN, dIfS, dDrop, dNext, dBreak, dCont, dAug, dVar, dC, dBin, dTest, dChain, dTru, dNotT, dAndT, dOrT, dAndV, dOrV, dNotV, dIf, dNil, dCons, dTup, dLst, dNewDict, dNeg, dCB, dBM, dBM0, dCall, dYes,   dSl, dNoPart, dPart, qSl, dBack, qBack, dFor, dISeq, dIRng1, dIRng2, dIZip, dLc, dDc,   qAdd, qInt, qInt0, qSub, qMul, qDiv, qMod, qPow, qLt, qLe, qGt, qGe, qIs, qIsNot, qIx, qLen, qAbs, qMax, qMin, qSum, qAll, qAny, qInt_, qStr_, qList_, qTuple_, qDict_, qIsi, qSet, iAdd, iSub, iMul, iDiv, iMod,   mAppend, mExtend, mPop, truD, tyN, isTy, seqD, lstD, keyD, isNonD,   kit_ii, kit_bi, kit_si, kit_ti, kit_li, kit_di, kit_ni, kit_ib, kit_bb, kit_sb, kit_tb, kit_lb, kit_nb, kit_is, kit_ss, kit_ts, kit_ls, kit_ns, kit_it, kit_st, kit_tt, kit_lt, kit_nt, kit_il, kit_tl, kit_ll, kit_dl, kit_nl, kit_dd, kit_nd, kit_ld,   startD, wipeD, List.map_cons, List.map_nil, List.length_cons, List.length_nil, Nat.reduceAdd, Nat.reduceSub, List.replicate_succ, List.replicate_zero, List.cons_append, List.nil_append, List.getElem?_cons_zero, List.getElem?_cons_succ, List.set_cons_zero, List.set_cons_succ,   List.length_append, List.length_set, set_get, Option.map_some, List.set_set, atI_0, atI_1, atI_2, atI_3, atI_4, atI_5, atI_6, List.append_assoc, Nat.add_assoc, getK, getK0, getL, setK, setK0, setL, List.length_map, mJoin, mIndex, mCount, mGet, strsOf, intsOf, blsOf, Option.bind_some, intsD_map, strsD_map, blsD_map, Option.isSome_some, szl, Nat.reduceLeDiff, qEq_ii, qNe_ii, Bool.not_true, Bool.not_false, decT, decF, dDelT, dDisp, dPairs, dFld, dFldS, dMeth, dMake, dIEnum, dAugK, dNever, dListRev, dListRg1, dPar, dListZip, dForD, mSetd, dRaise, dCallX, dMethX, dMakeX, dTryOnly, dTryAs, wipeE, qIsE, clsVal, clsVals, PySem.W.kitAny, eq_self, true_and, ea]
  refine ⟨u, .var bl, vv, pl, by rw [Tm.d_var], hv, by omega, by omega, by omega, ?_⟩
  have z1 := Tm.put_size (new := .var bl) pl hv
  have hfl := put_flat (new := .var bl) (i := bl) (by rw [Tm.flat_var]; exact List.mem_singleton.mpr rfl) pl hv
  have hnn : (Tm.put (.var bl) pl u).Nm NameOk := Tm.put_nm .var pl hv (hu.nm hss)
  rw [Tm.size_var] at z1
  generalize Tm.put (.var bl) pl u = t2 at z1 hfl hnn ⊢
  try simp only [dSeq, dAsg, dgName, dgTup, dgCons, dgNil, dgSub, dRet, dRetN, dIfS, dDrop, dNext, dBreak, dCont, dAug, dVar, dC, dBin, dTest, dChain, dTru, dNotT, dAndT, dOrT, dAndV, dOrV, dNotV, dIf, dNil, dCons, dTup, dLst, dNewDict, dNeg, dCB, dBM, dBM0, dCall, dYes,   dSl, dNoPart, dPart, qSl, dBack, qBack, dFor, dISeq, dIRng1, dIRng2, dIZip, dLc, dDc,   qAdd, qInt, qInt0, qSub, qMul, qDiv, qMod, qPow, qLt, qLe, qGt, qGe, qIs, qIsNot, qIx, qLen, qAbs, qMax, qMin, qSum, qAll, qAny, qInt_, qStr_, qList_, qTuple_, qDict_, qIsi, qSet, iAdd, iSub, iMul, iDiv, iMod,   mAppend, mExtend, mPop, truD, tyN, isTy, seqD, lstD, keyD, isNonD,   kit_ii, kit_bi, kit_si, kit_ti, kit_li, kit_di, kit_ni, kit_ib, kit_bb, kit_sb, kit_tb, kit_lb, kit_nb, kit_is, kit_ss, kit_ts, kit_ls, kit_ns, kit_it, kit_st, kit_tt, kit_lt, kit_nt, kit_il, kit_tl, kit_ll, kit_dl, kit_nl, kit_dd, kit_nd, kit_ld,   startD, wipeD, List.map_cons, List.map_nil, List.length_cons, List.length_nil, Nat.reduceAdd, Nat.reduceSub, List.replicate_succ, List.replicate_zero, List.cons_append, List.nil_append, List.getElem?_cons_zero, List.getElem?_cons_succ, List.set_cons_zero, List.set_cons_succ,   List.length_append, List.length_set, set_get, Option.map_some, List.set_set, atI_0, atI_1, atI_2, atI_3, atI_4, atI_5, atI_6, List.append_assoc, Nat.add_assoc, getK, getK0, getL, setK, setK0, setL, List.length_map, mJoin, mIndex, mCount, mGet, strsOf, intsOf, blsOf, Option.bind_some, intsD_map, strsD_map, blsD_map, Option.isSome_some, szl, Nat.reduceLeDiff, qEq_ii, qNe_ii, Bool.not_true, Bool.not_false, decT, decF, dDelT, dDisp, dPairs, dFld, dFldS, dMeth, dMake, dIEnum, dAugK, dNever, dListRev, dListRg1, dPar, dListZip, dForD, mSetd, dRaise, dCallX, dMethX, dMakeX, dTryOnly, dTryAs, wipeE, qIsE, clsVal, clsVals, PySem.W.kitAny, eq_self, true_and]
  have hd : D.int bl = (Tm.var bl).d := (Tm.d_var bl).symm
  rw [hd]
  refine qEq_pl (Tm.pl hnn) (Tm.pl .var) (.inr (by rw [Tm.dep, Tm.deep_var]; omega)) fun b hb => ?_
  try simp only [dSeq, dAsg, dgName, dgTup, dgCons, dgNil, dgSub, dRet, dRetN, dIfS, dDrop, dNext, dBreak, dCont, dAug, dVar, dC, dBin, dTest, dChain, dTru, dNotT, dAndT, dOrT, dAndV, dOrV, dNotV, dIf, dNil, dCons, dTup, dLst, dNewDict, dNeg, dCB, dBM, dBM0, dCall, dYes,   dSl, dNoPart, dPart, qSl, dBack, qBack, dFor, dISeq, dIRng1, dIRng2, dIZip, dLc, dDc,   qAdd, qInt, qInt0, qSub, qMul, qDiv, qMod, qPow, qLt, qLe, qGt, qGe, qIs, qIsNot, qIx, qLen, qAbs, qMax, qMin, qSum, qAll, qAny, qInt_, qStr_, qList_, qTuple_, qDict_, qIsi, qSet, iAdd, iSub, iMul, iDiv, iMod,   mAppend, mExtend, mPop, truD, tyN, isTy, seqD, lstD, keyD, isNonD,   kit_ii, kit_bi, kit_si, kit_ti, kit_li, kit_di, kit_ni, kit_ib, kit_bb, kit_sb, kit_tb, kit_lb, kit_nb, kit_is, kit_ss, kit_ts, kit_ls, kit_ns, kit_it, kit_st, kit_tt, kit_lt, kit_nt, kit_il, kit_tl, kit_ll, kit_dl, kit_nl, kit_dd, kit_nd, kit_ld,   startD, wipeD, List.map_cons, List.map_nil, List.length_cons, List.length_nil, Nat.reduceAdd, Nat.reduceSub, List.replicate_succ, List.replicate_zero, List.cons_append, List.nil_append, List.getElem?_cons_zero, List.getElem?_cons_succ, List.set_cons_zero, List.set_cons_succ,   List.length_append, List.length_set, set_get, Option.map_some, List.set_set, atI_0, atI_1, atI_2, atI_3, atI_4, atI_5, atI_6, List.append_assoc, Nat.add_assoc, getK, getK0, getL, setK, setK0, setL, List.length_map, mJoin, mIndex, mCount, mGet, strsOf, intsOf, blsOf, Option.bind_some, intsD_map, strsD_map, blsD_map, Option.isSome_some, szl, Nat.reduceLeDiff, qEq_ii, qNe_ii, Bool.not_true, Bool.not_false, decT, decF, dDelT, dDisp, dPairs, dFld, dFldS, dMeth, dMake, dIEnum, dAugK, dNever, dListRev, dListRg1, dPar, dListZip, dForD, mSetd, dRaise, dCallX, dMethX, dMakeX, dTryOnly, dTryAs, wipeE, qIsE, clsVal, clsVals, PySem.W.kitAny, eq_self, true_and]
  refine ⟨.var bl, t2, b, rfl, .var, hnn, by rw [Tm.size_var]; omega, by omega, fun h => (Tm.d_inj (hb.mp h)).symm, fun h θ e => ?_, .same (q _)⟩
  have hne : t2 ≠ .var bl := fun e => by rw [hb.mpr (by rw [e])] at h; cases h
  have := fill_in (θ := θ) hfl hne
  rw [e] at this
  omega
def dd__alike_on_top : He.DefD := ⟨("_alike_on_top", none), "_alike_on_top", "_alike_on_top", defArgs s__alike_on_top, defBody s__alike_on_top, defScope s__alike_on_top, [], []⟩
def dd_Joint___init__ : He.DefD := ⟨("Joint", some "__init__"), "__init__", "Joint.__init__", defArgs s_Joint___init__, defBody s_Joint___init__, defScope s_Joint___init__, [], []⟩
def dd_Joint_top : He.DefD := ⟨("Joint", some "top"), "top", "Joint.top", defArgs s_Joint_top, defBody s_Joint_top, defScope s_Joint_top, [], []⟩
def dd_Joint_inner : He.DefD := ⟨("Joint", some "inner"), "inner", "Joint.inner", defArgs s_Joint_inner, defBody s_Joint_inner, defScope s_Joint_inner, [], []⟩
def dd_Joint_like_blanks : He.DefD := ⟨("Joint", some "like_blanks"), "like_blanks", "Joint.like_blanks", defArgs s_Joint_like_blanks, defBody s_Joint_like_blanks, defScope s_Joint_like_blanks, [], []⟩
def dd_Joint_join_both : He.DefD := ⟨("Joint", some "join_both"), "join_both", "Joint.join_both", defArgs s_Joint_join_both, defBody s_Joint_join_both, defScope s_Joint_join_both, [], []⟩
def dd__built : He.DefD := ⟨("_built", none), "_built", "_built", defArgs s__built, defBody s__built, defScope s__built, [], []⟩
def dd_met : He.DefD := ⟨("met", none), "met", "met", defArgs s_met, defBody s_met, defScope s_met, [], []⟩
def dd__law_cell : He.DefD := ⟨("_law_cell", none), "_law_cell", "_law_cell", defArgs s__law_cell, defBody s__law_cell, defScope s__law_cell, [], []⟩
def dd__law_dice : He.DefD := ⟨("_law_dice", none), "_law_dice", "_law_dice", defArgs s__law_dice, defBody s__law_dice, defScope s__law_dice, [], []⟩
def dd__law_off : He.DefD := ⟨("_law_off", none), "_law_off", "_law_off", defArgs s__law_off, defBody s__law_off, defScope s__law_off, [], []⟩
def dd__law_names : He.DefD := ⟨("_law_names", none), "_law_names", "_law_names", defArgs s__law_names, defBody s__law_names, defScope s__law_names, [], []⟩
def dd__law_signs : He.DefD := ⟨("_law_signs", none), "_law_signs", "_law_signs", defArgs s__law_signs, defBody s__law_signs, defScope s__law_signs, [], []⟩
def dd__law_free : He.DefD := ⟨("_law_free", none), "_law_free", "_law_free", defArgs s__law_free, defBody s__law_free, defScope s__law_free, [], []⟩
def dd__law_term : He.DefD := ⟨("_law_term", none), "_law_term", "_law_term", defArgs s__law_term, defBody s__law_term, defScope s__law_term, [], []⟩
def dd__law_flat : He.DefD := ⟨("_law_flat", none), "_law_flat", "_law_flat", defArgs s__law_flat, defBody s__law_flat, defScope s__law_flat, [], []⟩
def dd__law_places : He.DefD := ⟨("_law_places", none), "_law_places", "_law_places", defArgs s__law_places, defBody s__law_places, defScope s__law_places, [], []⟩
def dd__law_put : He.DefD := ⟨("_law_put", none), "_law_put", "_law_put", defArgs s__law_put, defBody s__law_put, defScope s__law_put, [], []⟩
def dd__law_two : He.DefD := ⟨("_law_two", none), "_law_two", "_law_two", defArgs s__law_two, defBody s__law_two, defScope s__law_two, [], []⟩
def dd__law_right : He.DefD := ⟨("_law_right", none), "_law_right", "_law_right", defArgs s__law_right, defBody s__law_right, defScope s__law_right, [], []⟩
def dd_law : He.DefD := ⟨("law", none), "law", "law", defArgs s_law, defBody s_law, defScope s_law, [], []⟩
def fn : List He.DefD := [dd__alike_on_top, dd_Joint___init__, dd_Joint_top, dd_Joint_inner, dd_Joint_like_blanks, dd_Joint_join_both, dd__built, dd_met, dd__law_cell, dd__law_dice, dd__law_off, dd__law_names, dd__law_signs, dd__law_free, dd__law_term, dd__law_flat, dd__law_places, dd__law_put, dd__law_two, dd__law_right, dd_law]
def fa : List He.Fa := [.glo "_alike_on_top", .glo "_built", .glo "met", .glo "_law_cell", .glo "_law_dice", .glo "_law_off", .glo "_law_names", .glo "_law_signs", .glo "_law_free", .glo "_law_term", .glo "_law_flat", .glo "_law_places", .glo "_law_put", .glo "_law_two", .glo "_law_right", .glo "law", .meth "Joint" "top", .meth "Joint" "inner", .meth "Joint" "like_blanks", .meth "Joint" "join_both", .glo "Joint", .cls "Joint", .mkr "Joint", .noat "Joint" "parts", .noat "Joint" "_firsts", .noat "Joint" "_links", .free "abs", .free "dict", .free "enumerate", .free "int", .free "isinstance", .free "len", .free "list", .free "max", .free "range", .free "sum", .free "tuple", .free "zip", .glo "WoodError", .glo "TooHeavy", .exc "TooHeavy"]
abbrev R : PySem.W.OpenRow := PySem.W.OpenLaw.row PySem.Challenge.rw_ruleswood_k13_not_met
abbrev hk : PySem.W.Hook := He.hookD 6 fa fn
def ob (s : PySem.W.SharedT) : He.AlD := He.obsDG 6 fa fn (HandSHeadRun.getT s)
theorem ob_eq (s : PySem.W.SharedT) : ob s = hk.obs s.abs := He.obsDG_eq (HandSHeadRun.getT_eq s)
def loose : List Str := (["_alike_on_top", "_built", "met", "_law_cell", "_law_dice", "_law_off", "_law_names", "_law_signs", "_law_free", "_law_term", "_law_flat", "_law_places", "_law_put", "_law_two", "_law_right", "WoodError"] : List Str) ++ (["TooHeavy", "Joint"] : List Str)
theorem run (w : World) : HandSHeadRun.RunEq R (PySem.W.view R.prog [21]) hk ob 8000 loose w := by
  intro os
  kernel_rfl
theorem topOf {K : PySem.W.Frag} {h : Heap} {mg : Str → Option Value} (X : K.In h) (G : h.Ns mainGlobals mg) (c : He.SaysD fa fn K) : Top K mg where
  d__alike_on_top := c.def_ 0 (d := dd__alike_on_top) rfl
  d_Joint___init__ := c.def_ 1 (d := dd_Joint___init__) rfl
  d_Joint_top := c.def_ 2 (d := dd_Joint_top) rfl
  d_Joint_inner := c.def_ 3 (d := dd_Joint_inner) rfl
  d_Joint_like_blanks := c.def_ 4 (d := dd_Joint_like_blanks) rfl
  d_Joint_join_both := c.def_ 5 (d := dd_Joint_join_both) rfl
  d__built := c.def_ 6 (d := dd__built) rfl
  d_met := c.def_ 7 (d := dd_met) rfl
  d__law_cell := c.def_ 8 (d := dd__law_cell) rfl
  d__law_dice := c.def_ 9 (d := dd__law_dice) rfl
  d__law_off := c.def_ 10 (d := dd__law_off) rfl
  d__law_names := c.def_ 11 (d := dd__law_names) rfl
  d__law_signs := c.def_ 12 (d := dd__law_signs) rfl
  d__law_free := c.def_ 13 (d := dd__law_free) rfl
  d__law_term := c.def_ 14 (d := dd__law_term) rfl
  d__law_flat := c.def_ 15 (d := dd__law_flat) rfl
  d__law_places := c.def_ 16 (d := dd__law_places) rfl
  d__law_put := c.def_ 17 (d := dd__law_put) rfl
  d__law_two := c.def_ 18 (d := dd__law_two) rfl
  d__law_right := c.def_ 19 (d := dd__law_right) rfl
  d_law := c.def_ 20 (d := dd_law) rfl
  g__alike_on_top := He.glo_ok X G (c.fact 0 (f := .glo "_alike_on_top") rfl)
  g__built := He.glo_ok X G (c.fact 1 (f := .glo "_built") rfl)
  g_met := He.glo_ok X G (c.fact 2 (f := .glo "met") rfl)
  g__law_cell := He.glo_ok X G (c.fact 3 (f := .glo "_law_cell") rfl)
  g__law_dice := He.glo_ok X G (c.fact 4 (f := .glo "_law_dice") rfl)
  g__law_off := He.glo_ok X G (c.fact 5 (f := .glo "_law_off") rfl)
  g__law_names := He.glo_ok X G (c.fact 6 (f := .glo "_law_names") rfl)
  g__law_signs := He.glo_ok X G (c.fact 7 (f := .glo "_law_signs") rfl)
  g__law_free := He.glo_ok X G (c.fact 8 (f := .glo "_law_free") rfl)
  g__law_term := He.glo_ok X G (c.fact 9 (f := .glo "_law_term") rfl)
  g__law_flat := He.glo_ok X G (c.fact 10 (f := .glo "_law_flat") rfl)
  g__law_places := He.glo_ok X G (c.fact 11 (f := .glo "_law_places") rfl)
  g__law_put := He.glo_ok X G (c.fact 12 (f := .glo "_law_put") rfl)
  g__law_two := He.glo_ok X G (c.fact 13 (f := .glo "_law_two") rfl)
  g__law_right := He.glo_ok X G (c.fact 14 (f := .glo "_law_right") rfl)
  g_law := He.glo_ok X G (c.fact 15 (f := .glo "law") rfl)
  m_Joint_top := He.meth_ok (c.fact 16 (f := .meth "Joint" "top") rfl)
  m_Joint_inner := He.meth_ok (c.fact 17 (f := .meth "Joint" "inner") rfl)
  m_Joint_like_blanks := He.meth_ok (c.fact 18 (f := .meth "Joint" "like_blanks") rfl)
  m_Joint_join_both := He.meth_ok (c.fact 19 (f := .meth "Joint" "join_both") rfl)
  g_Joint := He.glo_ok X G (c.fact 20 (f := .glo "Joint") rfl)
  c_Joint := He.cls_ok (c.fact 21 (f := .cls "Joint") rfl)
  k_Joint := He.mkr_ok (c.fact 22 (f := .mkr "Joint") rfl)
  a_Joint_parts := He.noat_ok (c.fact 23 (f := .noat "Joint" "parts") rfl)
  a_Joint__firsts := He.noat_ok (c.fact 24 (f := .noat "Joint" "_firsts") rfl)
  a_Joint__links := He.noat_ok (c.fact 25 (f := .noat "Joint" "_links") rfl)
  n_abs := He.free_ok X G (c.fact 26 (f := .free "abs") rfl)
  n_dict := He.free_ok X G (c.fact 27 (f := .free "dict") rfl)
  n_enumerate := He.free_ok X G (c.fact 28 (f := .free "enumerate") rfl)
  n_int := He.free_ok X G (c.fact 29 (f := .free "int") rfl)
  n_isinstance := He.free_ok X G (c.fact 30 (f := .free "isinstance") rfl)
  n_len := He.free_ok X G (c.fact 31 (f := .free "len") rfl)
  n_list := He.free_ok X G (c.fact 32 (f := .free "list") rfl)
  n_max := He.free_ok X G (c.fact 33 (f := .free "max") rfl)
  n_range := He.free_ok X G (c.fact 34 (f := .free "range") rfl)
  n_sum := He.free_ok X G (c.fact 35 (f := .free "sum") rfl)
  n_tuple := He.free_ok X G (c.fact 36 (f := .free "tuple") rfl)
  n_zip := He.free_ok X G (c.fact 37 (f := .free "zip") rfl)
  g_WoodError := He.glo_ok X G (c.fact 38 (f := .glo "WoodError") rfl)
  g_TooHeavy := He.glo_ok X G (c.fact 39 (f := .glo "TooHeavy") rfl)
  e_TooHeavy := He.exc_ok (c.fact 40 (f := .exc "TooHeavy") rfl)
theorem facts {P : Program} {w : World} {K : PySem.W.Frag} {h : Heap} {mg : Str → Option Value} {f : Addr} (X : K.In h) (G : h.Ns mainGlobals mg) (hfa : mg ("law" : Str) = some (.ref f)) (c : He.SaysD fa fn K) :
    ∃ fd : FuncData, (∀ (s : Shared) (v : Value), BindsTo s fd ⟨[v], []⟩ [("_law_script", v)]) ∧ ∀ base : Heap, K.In base → base.Ns mainGlobals mg → FnOk P w K mg base CX0 40 f fd ["_law_script"] (liftSp K spLaw) := by
  have T := topOf X G c
  obtain ⟨fd, F⟩ := T.d_law
  have b := FunD.bindsA (ps := ["_law_script"]) F fun _ _ _ _ _ _ us hl => match us, hl with | [_], _ => rfl
  have e1 : f = He.ga K "law" := by
    have := hfa.symm.trans T.g_law
    cases this
    rfl
  subst e1
  exact ⟨fd, fun s v => b s [v] rfl, fun base _ _ => fn_law T F⟩
end
end K13
open PySem PySem.W PySem.Calls PyProof.Rows
set_option maxRecDepth 100000 in
set_option maxHeartbeats 0 in
theorem PySem.Challenge.cw_ruleswood_k13_not_met_holds : PySem.Challenge.rw_ruleswood_k13_not_met.Holds := by
  w_on; o_law
  refine HandSHeadRun.head_any (r := OpenLaw.row PySem.Challenge.rw_ruleswood_k13_not_met) (q := view (OpenLaw.row PySem.Challenge.rw_ruleswood_k13_not_met).prog [21]) (H := K13.hk) (ob := K13.ob) (M := 8000) (loose := K13.loose) (d := HandSHeadRun.topDef (OpenLaw.row PySem.Challenge.rw_ruleswood_k13_not_met).prog 21) (kwd := []) K13.ob_eq
    (by kernel_rfl) (fun s => by kernel_rfl) K13.run (by kernel_rfl) (by kernel_rfl) (by kernel_rfl) (by rfl) (by first | assumption | decide +kernel) (by decide +kernel) ⟨rfl, rfl, rfl, rfl, rfl, by decide +kernel⟩ ?hw ?hc
  case hw => w_witness2
  case hc =>
    refine L2.walk_ofE (l := PySem.Challenge.rw_ruleswood_k13_not_met) (n := 63) (k := 40) (x := "_law_script") (CX := L2.CX0) rfl (by decide) (by kernel_rfl) ⟨rfl, by decide, by decide⟩ ?F (fun _ _ _ _ z => z)
    intro w mg fa h Y G hmg0
    obtain ⟨K, KX, c⟩ := Y
    have hmg : mg ("law" : PySem.Str) = some (.ref fa) := by
      have e : (HandSHeadRun.topDef (OpenLaw.row PySem.Challenge.rw_ruleswood_k13_not_met).prog 21).name = ("law" : PySem.Str) := by kernel_rfl
      rw [← e]
      exact hmg0
    obtain ⟨fd, hb, hF⟩ := K13.facts (P := (PySem.Challenge.rw_ruleswood_k13_not_met).prog) (w := w) KX G hmg c
    exact ⟨K, fd, DL.liftSp K DL.spLaw, KX, hb, fun H a ns hl hO hS => DL.law_sp hl hO hS, hF⟩
